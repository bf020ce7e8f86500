import Derived.Test.YtiphbmhoifggiaaGreatDoorUnitSpec
import Derived.Test.YtiphbmhoifggiaaGreatDoorOfRegT
import Derived.Deep.QuietTactic
import Derived.BigQuiet
import Derived.Deep.RegionWith
import Derived.BigRegion
import Derived.Test.YtiphbmhoifggiaaGreatDoorOpenRow
import Derived.OpenShut
set_option maxHeartbeats 4000000
set_option maxRecDepth 100000
namespace Go.Proofs.YtiphbmhoifggiaaGreatDoor
open Go.RowKit
def stZ(_:Nat):Value:=.int .i64 0
theorem info_stmt:(Tryz.prog.info? 99).map (fun i=>(i.zero,i.size,i.bytes))=some (some (.agg #[.int .i64 0,.int .i64 0,.int .i64 0,.int .i64 0,.int .i64 0,.int .i64 0,.int .i64 0,.int .i64 0,.int .i64 0,.int .i64 0,.int .i64 0]),11,88):=by kernel_rfl
theorem zeroStmt (i : Nat) : ((Value.agg #[.int .i64 0, .int .i64 0, .int .i64 0, .int .i64 0, .int .i64 0, .int .i64 0, .int .i64 0, .int .i64 0, .int .i64 0, .int .i64 0, .int .i64 0]).cells)[i % ((Value.agg #[.int .i64 0, .int .i64 0, .int .i64 0, .int .i64 0, .int .i64 0, .int .i64 0, .int .i64 0, .int .i64 0, .int .i64 0, .int .i64 0, .int .i64 0]).cells).size]! = stZ i := by
 show (#[Value.int .i64 0, .int .i64 0, .int .i64 0, .int .i64 0, .int .i64 0, .int .i64 0, .int .i64 0, .int .i64 0, .int .i64 0, .int .i64 0, .int .i64 0] : Array Value)[i % 11]! = _;unfold stZ;have : i % 11 < 11 := by omega
 match i % 11, this with
 | 0, _ => rfl
 | 1, _ => rfl
 | 2, _ => rfl
 | 3, _ => rfl
 | 4, _ => rfl
 | 5, _ => rfl
 | 6, _ => rfl
 | 7, _ => rfl
 | 8, _ => rfl
 | 9, _ => rfl
 | 10, _ => rfl
theorem toStmt_any(s:SV)(w:World):
 Calls Tryz.prog 91 #[.agg #[.int .i64 s.k,.int .i64 s.op,.int .i64 s.d,.int .i64 s.a,.int .i64 s.b,.int .i64 s.imm,.int .i64 s.h,.int .i64 s.cond,.int .i64 s.thn,.int .i64 s.els,.int .i64 s.proc]] w fun e w'=>e=.returned (.agg #[.int .i64 s.k,.int .i64 s.op,.int .i64 s.d,.int .i64 s.a,.int .i64 s.b,.int .i64 s.imm,.int .i64 s.h,.int .i64 s.cond,.int .i64 s.thn,.int .i64 s.els,.int .i64 s.proc])/\Below w.heap.size w w':=by
 go_enter Tryz.func91,Tryz.ntmps91;go_wp2_with fail;refine(toIns_any _ _ _ _ _ _ _).mono ?_;rintro e w1⟨rfl,hb1⟩;obtain⟨hc1,hf1⟩:=bcell hb1;have hz1:w.heap.size+2<w1.heap.size:=by have:=hb1.size;simp at this;omega
 have hz2:w.heap.size+1<w1.heap.size:=by omega
 have hz3:w.heap.size<w1.heap.size:=by omega
 have HB:Hid (Below w.heap.size w w1):=((((Below.refl _ _).alloc (Nat.le_refl _) _).alloc (by simp) _).alloc (by simp;omega) _).trans (hb1.mono (by simp;omega));clear hb1;go_wp2;refine bodyPost_ret (v:=.agg #[.int .i64 s.k,.int .i64 s.op,.int .i64 s.d,.int .i64 s.a,.int .i64 s.b,.int .i64 s.imm,.int .i64 s.h,.int .i64 s.cond,.int .i64 s.thn,.int .i64 s.els,.int .i64 s.proc]) (by simp[results,Tryz.results91,go_sem,hc1]) rfl ⟨rfl,?_⟩
 (repeat refine Below.setCell ?_ (by simp;try omega) _)
 exact HB.out
theorem toStmtS_at(b off len cap:Nat)(L:Nat->SV)(w:World)(hlen:len<=1048576)(hat:At w b off (len*11) (stF L)):
 Calls Tryz.prog 70 #[.slice (some ⟨b,off,none⟩) len cap] w fun e w'=>e=.returned (.slice (some ⟨w.heap.size,0,none⟩) len len)/\Below w.heap.size w w'/\Arr w' w.heap.size (len*11) (stF L):=by
 obtain⟨i0,hi,hz0,hz1,hz2⟩:=info_parts info_stmt;have hb:=hat.lt;have HA:Hid (At w b off (len*11) (stF L)):=hat;clear hat;go_enter Tryz.func70,Tryz.ntmps70;go_wp2_with(first|(at_make;refine wpList_make_full _ rfl _ _ 59 rfl w.heap.size 99 i0 _ 11 Tryz.underlying59 hi hz0 hz1 .i64 .i64 _ _ len rfl rfl ?c1 ?c2 ?c3 ?c4 ?c5 ?_)|go_in)
 case c1=>rfl
 case c2=>rfl
 case c3=>rw[hz2];omega
 case c4=>unfold maxLen;omega
 case c5=>exact Nat.le_refl _
 ·intro w1 hown hgrow
  have hbel:Below w.heap.size w w1:=(Below.refl _ _).grown hgrow (Nat.le_refl _) (by intro k hk;cases hk);have harr:Arr w1 w.heap.size (len*11) (upTo (stF L) stZ (0*11)):=Arr.made hown fun i hi=>by
   rw[made_get _ _ _ hi,Nat.zero_mul,upTo_zero];exact congrArg some (zeroStmt i)
  clear hown hgrow hi hz0 hz1 hz2;go_wp2;go_loopw [4](fun i wr=>∃k:Nat,k<=len/\i=.int .i64 k/\Below w.heap.size w wr/\Arr wr w.heap.size (len*11) (upTo (stF L) stZ (k*11)))(fun i _=>len-(intOf i).toNat)
  case atStart=>exact⟨0,Nat.zero_le _,rfl,hbel,harr⟩
  case round=>
   clear harr hbel;obtain⟨k,hk,rfl,hbr,har⟩:=hrel;have HAR:Hid (Arr wr w.heap.size (len*11) (upTo (stF L) stZ (k*11))):=har;have hzr:=har.lt;clear har;by_cases hlt:k<len
   ·have g0:=(hbr.cell (p:=⟨b,off+k*11,none⟩) hb).trans ((HA.out.cell (i:=k*11+0) (by omega)).trans (congrArg some (stF_at L k 0 (by omega))))
    have g1:=(hbr.cell (p:=⟨b,off+k*11+1,none⟩) hb).trans ((HA.out.cell (i:=k*11+1) (by omega)).trans (congrArg some (stF_at L k 1 (by omega))));have g2:=(hbr.cell (p:=⟨b,off+k*11+2,none⟩) hb).trans ((HA.out.cell (i:=k*11+2) (by omega)).trans (congrArg some (stF_at L k 2 (by omega))));have g3:=(hbr.cell (p:=⟨b,off+k*11+3,none⟩) hb).trans ((HA.out.cell (i:=k*11+3) (by omega)).trans (congrArg some (stF_at L k 3 (by omega))));have g4:=(hbr.cell (p:=⟨b,off+k*11+4,none⟩) hb).trans ((HA.out.cell (i:=k*11+4) (by omega)).trans (congrArg some (stF_at L k 4 (by omega))));have g5:=(hbr.cell (p:=⟨b,off+k*11+5,none⟩) hb).trans ((HA.out.cell (i:=k*11+5) (by omega)).trans (congrArg some (stF_at L k 5 (by omega))));have g6:=(hbr.cell (p:=⟨b,off+k*11+6,none⟩) hb).trans ((HA.out.cell (i:=k*11+6) (by omega)).trans (congrArg some (stF_at L k 6 (by omega))));have g7:=(hbr.cell (p:=⟨b,off+k*11+7,none⟩) hb).trans ((HA.out.cell (i:=k*11+7) (by omega)).trans (congrArg some (stF_at L k 7 (by omega))));have g8:=(hbr.cell (p:=⟨b,off+k*11+8,none⟩) hb).trans ((HA.out.cell (i:=k*11+8) (by omega)).trans (congrArg some (stF_at L k 8 (by omega))));have g9:=(hbr.cell (p:=⟨b,off+k*11+9,none⟩) hb).trans ((HA.out.cell (i:=k*11+9) (by omega)).trans (congrArg some (stF_at L k 9 (by omega))));have g10:=(hbr.cell (p:=⟨b,off+k*11+10,none⟩) hb).trans ((HA.out.cell (i:=k*11+10) (by omega)).trans (congrArg some (stF_at L k 10 (by omega))));simp only[stC]at g0 g1 g2 g3 g4 g5 g6 g7 g8 g9 g10;go_wp2_with fail;refine(toStmt_any (L k) _).mono ?_;rintro e w2⟨rfl,hb2⟩;clear g0 g1 g2 g3 g4 g5 g6 g7 g8 g9 g10;have A2:=HAR.out.below hb2 hzr;have f2:=A2.free;have c0:=A2.cell (i:=k*11) (by omega);have c1:=A2.cell (i:=k*11+1) (by omega);have c2:=A2.cell (i:=k*11+2) (by omega);have c3:=A2.cell (i:=k*11+3) (by omega);have c4:=A2.cell (i:=k*11+4) (by omega);have c5:=A2.cell (i:=k*11+5) (by omega);have c6:=A2.cell (i:=k*11+6) (by omega);have c7:=A2.cell (i:=k*11+7) (by omega);have c8:=A2.cell (i:=k*11+8) (by omega);have c9:=A2.cell (i:=k*11+9) (by omega);have c10:=A2.cell (i:=k*11+10) (by omega);have HR:Hid (Arr w2 w.heap.size (len*11) (upTo (stF L) stZ (k*11))):=A2;clear A2;go_wp2;go_roundw
    case rel=>
     refine⟨k+1,by omega,by go_num,below_setCells (Nat.le_refl _) [.int .i64 (L k).k,.int .i64 (L k).op,.int .i64 (L k).d,.int .i64 (L k).a,.int .i64 (L k).b,.int .i64 (L k).imm,.int .i64 (L k).h,.int .i64 (L k).cond,.int .i64 (L k).thn,.int .i64 (L k).els,.int .i64 (L k).proc] (k*11) (hbr.trans (hb2.mono hbr.size)),?_⟩;rw[show(k+1)*11=k*11+11 by omega];exact HR.out.fill (vs:=[.int .i64 (L k).k,.int .i64 (L k).op,.int .i64 (L k).d,.int .i64 (L k).a,.int .i64 (L k).b,.int .i64 (L k).imm,.int .i64 (L k).h,.int .i64 (L k).cond,.int .i64 (L k).thn,.int .i64 (L k).els,.int .i64 (L k).proc]) (by simp;omega) (fun j hj=>by
      have hj':j<11:=by simpa using hj
      rw[stF_at L k j hj'];match j,hj' with
      |0,_=>rfl
      |1,_=>rfl
      |2,_=>rfl
      |3,_=>rfl
      |4,_=>rfl
      |5,_=>rfl
      |6,_=>rfl
      |7,_=>rfl
      |8,_=>rfl
      |9,_=>rfl
      |10,_=>rfl)
    case measure=>simp[intOf];omega
   ·go_wp2
    go_ret;obtain rfl:k=len:=by omega
    exact⟨rfl,hbr,HAR.out.filled⟩
theorem toStmtS_nil(ao:Option Addr)(cap:Nat)(L:Nat->SV)(w:World):
 Calls Tryz.prog 70 #[.slice ao 0 cap] w fun e w'=>e=.returned (.slice (some ⟨w.heap.size,0,none⟩) 0 0)/\Below w.heap.size w w'/\Arr w' w.heap.size (0*11) (stF L):=by
 obtain⟨i0,hi,hz0,hz1,hz2⟩:=info_parts info_stmt;go_enter Tryz.func70,Tryz.ntmps70;go_wp2_with(first|(at_make;refine wpList_make_full _ rfl _ _ 59 rfl w.heap.size 99 i0 _ 11 Tryz.underlying59 hi hz0 hz1 .i64 .i64 _ _ 0 rfl rfl ?c1 ?c2 ?c3 ?c4 ?c5 ?_)|go_in)
 case c1=>rfl
 case c2=>rfl
 case c3=>rw[hz2];omega
 case c4=>unfold maxLen;omega
 case c5=>exact Nat.le_refl _
 ·intro w1 hown hgrow
  have hbel:Below w.heap.size w w1:=(Below.refl _ _).grown hgrow (Nat.le_refl _) (by intro k hk;cases hk);have harr:Arr w1 w.heap.size (0*11) (stF L):=Arr.made hown fun i hi=>by omega
  have HX:Hid (Below w.heap.size w w1/\Arr w1 w.heap.size (0*11) (stF L)):=⟨hbel,harr⟩
  clear hown hgrow hi hz0 hz1 hz2 hbel harr;go_wp2;refine wp_loop_rounds 1 ?_;rw[rounds_succ];go_wp2;go_ret;exact⟨rfl,HX.out.1,HX.out.2⟩
theorem toStmtS_in(ao:Option Addr)(len cap:Nat)(L:Nat->SV)(w:World)(hlen:len<=1048576)(h:InRow w ao (len*11) (stF L)):
 Calls Tryz.prog 70 #[.slice ao len cap] w fun e w'=>e=.returned (.slice (some ⟨w.heap.size,0,none⟩) len len)/\Below w.heap.size w w'/\Arr w' w.heap.size (len*11) (stF L):=by
 rcases h with h|⟨b,off,rfl,h⟩
 ·obtain rfl:len=0:=by omega
  exact toStmtS_nil ao cap L w
 ·exact toStmtS_at b off len cap L w hlen h
theorem eqIns_sameU(op d a b imm h:Int)(w:World):
 Calls Tryz.prog 117 #[.agg #[.int .i64 op,.int .i64 d,.int .i64 a,.int .i64 b,.int .i64 imm,.int .i64 h],.agg #[.int .i64 op,.int .i64 d,.int .i64 a,.int .i64 b,.int .i64 imm,.int .i64 h]] w fun e w'=>e=.returned (.bool true)/\Below w.heap.size w w':=by
 go_enter Tryz.func117,Tryz.ntmps117;go_wp2;go_ret;exact⟨rfl,((Below.refl _ _).alloc (Nat.le_refl _) _).alloc (by simp) _⟩
theorem eqStmt_same(s:SV)(w:World):
 Calls Tryz.prog 103 #[.agg #[.int .i64 s.k,.int .i64 s.op,.int .i64 s.d,.int .i64 s.a,.int .i64 s.b,.int .i64 s.imm,.int .i64 s.h,.int .i64 s.cond,.int .i64 s.thn,.int .i64 s.els,.int .i64 s.proc],.agg #[.int .i64 s.k,.int .i64 s.op,.int .i64 s.d,.int .i64 s.a,.int .i64 s.b,.int .i64 s.imm,.int .i64 s.h,.int .i64 s.cond,.int .i64 s.thn,.int .i64 s.els,.int .i64 s.proc]] w fun e w'=>e=.returned (.bool true)/\Below w.heap.size w w':=by
 go_enter Tryz.func103,Tryz.ntmps103;go_wp2_with fail;refine(eqIns_sameU _ _ _ _ _ _ _).mono ?_;rintro e w1⟨rfl,hb1⟩;obtain⟨hc1,hf1⟩:=bcell hb1;have hz1:w.heap.size+1<w1.heap.size:=by have:=hb1.size;simp at this;omega
 have hz2:w.heap.size<w1.heap.size:=by omega
 have HB:Hid (Below w.heap.size w w1):=(((Below.refl _ _).alloc (Nat.le_refl _) _).alloc (by simp) _).trans (hb1.mono (by simp;omega));clear hb1;go_wp2;go_ret;exact⟨rfl,HB.out⟩
theorem eqStmtS_same(b off len cap b' off' cap':Nat)(L:Nat->SV)(w:World)(hlen:len<=1048576)(hat:At w b off (len*11) (stF L))(hat':At w b' off' (len*11) (stF L)):
 Calls Tryz.prog 86 #[.slice (some ⟨b,off,none⟩) len cap,.slice (some ⟨b',off',none⟩) len cap'] w fun e w'=>e=.returned (.bool true)/\Below w.heap.size w w':=by
 have hb:=hat.lt;have hb':=hat'.lt;have HA:Hid (At w b off (len*11) (stF L)):=hat;have HA':Hid (At w b' off' (len*11) (stF L)):=hat';clear hat hat';go_enter Tryz.func86,Tryz.ntmps86;go_wp2;go_loopw [5](fun i wr=>∃k:Nat,k<=len/\i=.int .i64 k/\Below w.heap.size w wr)(fun i _=>len-(intOf i).toNat)
 case atStart=>exact⟨0,Nat.zero_le _,rfl,Below.refl _ _⟩
 case round=>
  obtain⟨k,hk,rfl,hbr⟩:=hrel;by_cases hlt:k<len
  ·have g0:=(hbr.cell (p:=⟨b,off+k*11,none⟩) hb).trans ((HA.out.cell (i:=k*11+0) (by omega)).trans (congrArg some (stF_at L k 0 (by omega))))
   have g1:=(hbr.cell (p:=⟨b,off+k*11+1,none⟩) hb).trans ((HA.out.cell (i:=k*11+1) (by omega)).trans (congrArg some (stF_at L k 1 (by omega))));have g2:=(hbr.cell (p:=⟨b,off+k*11+2,none⟩) hb).trans ((HA.out.cell (i:=k*11+2) (by omega)).trans (congrArg some (stF_at L k 2 (by omega))));have g3:=(hbr.cell (p:=⟨b,off+k*11+3,none⟩) hb).trans ((HA.out.cell (i:=k*11+3) (by omega)).trans (congrArg some (stF_at L k 3 (by omega))));have g4:=(hbr.cell (p:=⟨b,off+k*11+4,none⟩) hb).trans ((HA.out.cell (i:=k*11+4) (by omega)).trans (congrArg some (stF_at L k 4 (by omega))));have g5:=(hbr.cell (p:=⟨b,off+k*11+5,none⟩) hb).trans ((HA.out.cell (i:=k*11+5) (by omega)).trans (congrArg some (stF_at L k 5 (by omega))));have g6:=(hbr.cell (p:=⟨b,off+k*11+6,none⟩) hb).trans ((HA.out.cell (i:=k*11+6) (by omega)).trans (congrArg some (stF_at L k 6 (by omega))));have g7:=(hbr.cell (p:=⟨b,off+k*11+7,none⟩) hb).trans ((HA.out.cell (i:=k*11+7) (by omega)).trans (congrArg some (stF_at L k 7 (by omega))));have g8:=(hbr.cell (p:=⟨b,off+k*11+8,none⟩) hb).trans ((HA.out.cell (i:=k*11+8) (by omega)).trans (congrArg some (stF_at L k 8 (by omega))));have g9:=(hbr.cell (p:=⟨b,off+k*11+9,none⟩) hb).trans ((HA.out.cell (i:=k*11+9) (by omega)).trans (congrArg some (stF_at L k 9 (by omega))));have g10:=(hbr.cell (p:=⟨b,off+k*11+10,none⟩) hb).trans ((HA.out.cell (i:=k*11+10) (by omega)).trans (congrArg some (stF_at L k 10 (by omega))));have q0:=(hbr.cell (p:=⟨b',off'+k*11,none⟩) hb').trans ((HA'.out.cell (i:=k*11+0) (by omega)).trans (congrArg some (stF_at L k 0 (by omega))));have q1:=(hbr.cell (p:=⟨b',off'+k*11+1,none⟩) hb').trans ((HA'.out.cell (i:=k*11+1) (by omega)).trans (congrArg some (stF_at L k 1 (by omega))));have q2:=(hbr.cell (p:=⟨b',off'+k*11+2,none⟩) hb').trans ((HA'.out.cell (i:=k*11+2) (by omega)).trans (congrArg some (stF_at L k 2 (by omega))));have q3:=(hbr.cell (p:=⟨b',off'+k*11+3,none⟩) hb').trans ((HA'.out.cell (i:=k*11+3) (by omega)).trans (congrArg some (stF_at L k 3 (by omega))));have q4:=(hbr.cell (p:=⟨b',off'+k*11+4,none⟩) hb').trans ((HA'.out.cell (i:=k*11+4) (by omega)).trans (congrArg some (stF_at L k 4 (by omega))));have q5:=(hbr.cell (p:=⟨b',off'+k*11+5,none⟩) hb').trans ((HA'.out.cell (i:=k*11+5) (by omega)).trans (congrArg some (stF_at L k 5 (by omega))));have q6:=(hbr.cell (p:=⟨b',off'+k*11+6,none⟩) hb').trans ((HA'.out.cell (i:=k*11+6) (by omega)).trans (congrArg some (stF_at L k 6 (by omega))));have q7:=(hbr.cell (p:=⟨b',off'+k*11+7,none⟩) hb').trans ((HA'.out.cell (i:=k*11+7) (by omega)).trans (congrArg some (stF_at L k 7 (by omega))));have q8:=(hbr.cell (p:=⟨b',off'+k*11+8,none⟩) hb').trans ((HA'.out.cell (i:=k*11+8) (by omega)).trans (congrArg some (stF_at L k 8 (by omega))));have q9:=(hbr.cell (p:=⟨b',off'+k*11+9,none⟩) hb').trans ((HA'.out.cell (i:=k*11+9) (by omega)).trans (congrArg some (stF_at L k 9 (by omega))))
   have q10:=(hbr.cell (p:=⟨b',off'+k*11+10,none⟩) hb').trans ((HA'.out.cell (i:=k*11+10) (by omega)).trans (congrArg some (stF_at L k 10 (by omega))));simp only[stC]at g0 g1 g2 g3 g4 g5 g6 g7 g8 g9 g10 q0 q1 q2 q3 q4 q5 q6 q7 q8 q9 q10;have hlt':(k:Int)<(len:Int):=by omega
   go_wp2_with fail;go_region_with(go_at_call 103;refine(eqStmt_same (L k) _).mono ?_;rintro e w'⟨rfl,hb2⟩);all_goals
    clear g0 g1 g2 g3 g4 g5 g6 g7 g8 g9 g10 q0 q1 q2 q3 q4 q5 q6 q7 q8 q9 q10;go_wp2;go_roundw
    case rel=>exact⟨k+1,by omega,by go_num,hbr.drew.trans (hb2.mono hbr.size)⟩
    case measure=>simp[intOf];omega
  ·go_wp2
   go_ret;exact⟨rfl,hbr⟩
structure PI where
 ao:Option Addr
 len:Nat
 cap:Nat
 L:Nat->SV
def PI.pv(p:PI):PV:=⟨p.len,p.L⟩
def piF(Q:Nat->PI)(i:Nat):Value:=.slice (Q i).ao (Q i).len (Q i).cap
def pZ(_:Nat):Value:=.slice none 0 0
theorem info_proc:(Tryz.prog.info? 61).map (fun i=>(i.zero,i.size,i.bytes))=some (some (.agg #[.slice none 0 0]),1,24):=by kernel_rfl
theorem zeroProc (i : Nat) : ((Value.agg #[.slice none 0 0]).cells)[i % ((Value.agg #[.slice none 0 0]).cells).size]! = pZ i := by
 show (#[Value.slice none 0 0] : Array Value)[i % 1]! = _;unfold pZ;rw [Nat.mod_one];rfl
theorem toProc_any(ao:Option Addr)(len cap:Nat)(L:Nat->SV)(w:World)(hlen:len<=1048576)(h:InRow w ao (len*11) (stF L)):
 Calls Tryz.prog 47 #[.agg #[.slice ao len cap]] w fun e w'=>∃B,w.heap.size<=B/\e=.returned (.agg #[.slice (some ⟨B,0,none⟩) len len])/\Below w.heap.size w w'/\Arr w' B (len*11) (stF L):=by
 have HI:Hid (InRow w ao (len*11) (stF L)):=h;clear h;go_enter Tryz.func47,Tryz.ntmps47;go_wp2_with fail;refine(toStmtS_in _ _ _ L _ hlen ?hin).mono ?_
 case hin=>exact HI.out.below ((((Below.refl _ _).alloc (Nat.le_refl _) _).alloc (by simp) _).alloc (by simp;omega) _) (Nat.le_refl _)
 rintro e w1⟨rfl,hb1,ha1⟩;have HA:Hid _:=ha1;clear ha1;obtain⟨hc1,hf1⟩:=bcell hb1;have hz1:w.heap.size+2<w1.heap.size:=by have:=hb1.size;simp at this;omega
 have hz2:w.heap.size+1<w1.heap.size:=by omega
 have hz3:w.heap.size<w1.heap.size:=by omega
 go_wp2;refine bodyPost_ret (v:=.agg #[.slice (some ⟨w.heap.size+1+1+1,0,none⟩) len len]) (by simp[results,Tryz.results47,go_sem,hc1]) rfl ⟨w.heap.size+1+1+1,by omega,rfl,?_,?_⟩
 ·exact((((((Below.refl _ _).alloc (Nat.le_refl _) _).alloc (by simp) _).alloc (by simp;omega) _).trans (hb1.mono (by simp;omega))).setCell (by simp;try omega) _).setCell (by simp;try omega) _
 ·have h3:Arr w1 (w.heap.size+1+1+1) (len*11) (stF L):=by have:=HA.out;simp only[World.size_alloc]at this;exact this
  exact(h3.other (by simp) _).other (by simp) _
def putBlkU(blk:Nat->Nat)(k C i:Nat):Nat:=if i=k then C else blk i
theorem putBlkU_same(blk:Nat->Nat)(k C:Nat):putBlkU blk k C k=C:=by simp[putBlkU]
theorem putBlkU_other{blk:Nat->Nat}{k C i:Nat}(h:i≠k):putBlkU blk k C i=blk i:=by simp[putBlkU,h]
def Pord(B n:Nat)(blk:Nat->Nat):Prop:=(∀i,i<n->B<blk i)/\∀i j,i<j->j<n->blk i<blk j
def PTo(w:World)(B n k:Nat)(Q:Nat->PI)(blk:Nat->Nat):Prop:=
 Arr w B n (upTo (pF (fun i=>(Q i).pv) blk) pZ k)/\(∀i,i<k->B<blk i/\Arr w (blk i) ((Q i).len*11) (stF (Q i).L))/\∀i j,i<j->j<k->blk i<blk j
theorem pTo_step{w w2:World}{B n k C:Nat}{Q:Nat->PI}{blk:Nat->Nat}(hk:k<n)(h:PTo w B n k Q blk)(hb:Below w.heap.size w w2)(hC:w.heap.size<=C)(ha:Arr w2 C ((Q k).len*11) (stF (Q k).L)):
 PTo (w2.setCell ⟨B,k,none⟩ (.slice (some ⟨C,0,none⟩) (Q k).len (Q k).len)) B n (k+1) Q (putBlkU blk k C):=by
 obtain⟨h1,h2,h4⟩:=h;have hB:B<C:=Nat.lt_of_lt_of_le h1.lt hC;refine⟨?_,?_,?_⟩
 ·refine Arr.fill (o:=k) (vs:=[.slice (some ⟨C,0,none⟩) (Q k).len (Q k).len]) ((h1.below hb h1.lt).retell fun i hi=>?_) (by simp;omega) fun j hj=>?_
  ·unfold pF;rw[putBlkU_other (by omega)]
  ·match j,hj with
   |0,_=>show _=pF _ _ k;unfold pF;rw[putBlkU_same];rfl
 ·intro i hi
  by_cases e:i=k
  ·subst e;rw[putBlkU_same];exact⟨hB,ha.other (a:=⟨B,i,none⟩) (by simp;omega) _⟩
  ·rw[putBlkU_other e]
   obtain⟨q1,q2⟩:=h2 i (by omega);exact⟨q1,(q2.below hb q2.lt).other (a:=⟨B,k,none⟩) (by simp;omega) _⟩
 ·intro i j hij hj
  by_cases e:j=k
  ·subst e
   rw[putBlkU_other (by omega),putBlkU_same];exact Nat.lt_of_lt_of_le (h2 i (by omega)).2.lt hC
  ·rw[putBlkU_other (by omega),putBlkU_other e];exact h4 i j hij (by omega)
theorem toProcS_at(b off n cap:Nat)(Q:Nat->PI)(w:World)(hn:n<=1048576)(hat:At w b off n (piF Q))(hin:∀i,i<n->(Q i).len<=1048576/\InRow w (Q i).ao ((Q i).len*11) (stF (Q i).L)):
 Calls Tryz.prog 22 #[.slice (some ⟨b,off,none⟩) n cap] w fun e w'=>e=.returned (.slice (some ⟨w.heap.size,0,none⟩) n n)/\Below w.heap.size w w'/\∃blk,PCp w' w.heap.size n (fun i=>(Q i).pv) blk/\Pord w.heap.size n blk:=by
 obtain⟨i0,hi,hz0,hz1,hz2⟩:=info_parts info_proc;have hb:=hat.lt;have HA:Hid (At w b off n (piF Q)):=hat;have HI:Hid (∀i,i<n->(Q i).len<=1048576/\InRow w (Q i).ao ((Q i).len*11) (stF (Q i).L)):=hin;clear hat hin;go_enter Tryz.func22,Tryz.ntmps22;go_wp2_with(first|(at_make;refine wpList_make_full _ rfl _ _ 36 rfl w.heap.size 61 i0 _ 1 Tryz.underlying36 hi hz0 hz1 .i64 .i64 _ _ n rfl rfl ?c1 ?c2 ?c3 ?c4 ?c5 ?_)|go_in)
 case c1=>rfl
 case c2=>rfl
 case c3=>rw[hz2];omega
 case c4=>unfold maxLen;omega
 case c5=>exact Nat.le_refl _
 ·intro w1 hown hgrow
  have hbel:Below w.heap.size w w1:=(Below.refl _ _).grown hgrow (Nat.le_refl _) (by intro k hk;cases hk);have harr:PTo w1 w.heap.size n 0 Q (fun _=>0):=⟨by
   have:=Arr.made (z:=pZ) hown fun i hi=>by rw[made_get _ _ _ (show i<n by omega)];exact congrArg some (zeroProc i)
   rw[Nat.mul_one]at this;exact this.congr fun i _=>(upTo_zero _ _ _).symm,fun i hi=>by omega,fun i j _ hj=>by omega⟩
  clear hown hgrow hi hz0 hz1 hz2;go_wp2;go_loopw [4](fun i wr=>∃k:Nat,k<=n/\i=.int .i64 k/\Below w.heap.size w wr/\∃blk,PTo wr w.heap.size n k Q blk)(fun i _=>n-(intOf i).toNat)
  case atStart=>exact⟨0,Nat.zero_le _,rfl,hbel,_,harr⟩
  case round=>
   clear harr hbel;obtain⟨k,hk,rfl,hbr,blk,har⟩:=hrel;have HAR:Hid (PTo wr w.heap.size n k Q blk):=har;have hzr:=har.1.lt;clear har;by_cases hlt:k<n
   ·have g0:wr.cell? ⟨b,off+k,none⟩=some (.slice (Q k).ao (Q k).len (Q k).cap):=(hbr.cell (p:=⟨b,off+k,none⟩) hb).trans (HA.out.cell (i:=k) hlt)
    go_wp2_with fail;refine(toProc_any _ _ _ (Q k).L _ (HI.out k hlt).1 ((HI.out k hlt).2.below hbr (Nat.le_refl _))).mono ?_;rintro e w2⟨C,hC,rfl,hb2,ha2⟩;clear g0;have R:=pTo_step hlt HAR.out hb2 hC ha2;have A2:=HAR.out.1.below hb2 hzr;have f2:=A2.free;have c0:=A2.cell (i:=k) hlt;have HR:Hid (PTo (w2.setCell ⟨w.heap.size,k,none⟩ (.slice (some ⟨C,0,none⟩) (Q k).len (Q k).len)) w.heap.size n (k+1) Q (putBlkU blk k C)):=R;clear A2 R ha2;go_wp2;go_roundw
    case rel=>exact⟨k+1,by omega,by go_num,(hbr.trans (hb2.mono hbr.size)).setCell (p:=⟨w.heap.size,k,none⟩) (Nat.le_refl _) _,_,HR.out⟩
    case measure=>simp[intOf];omega
   ·go_wp2
    go_ret;obtain rfl:k=n:=by omega
    exact⟨rfl,hbr,blk,⟨HAR.out.1.filled,fun i hi=>(HAR.out.2.1 i hi).2⟩,fun i hi=>(HAR.out.2.1 i hi).1,HAR.out.2.2⟩
theorem toProcS_nil(ao:Option Addr)(cap:Nat)(Q:Nat->PI)(w:World):
 Calls Tryz.prog 22 #[.slice ao 0 cap] w fun e w'=>e=.returned (.slice (some ⟨w.heap.size,0,none⟩) 0 0)/\Below w.heap.size w w'/\∃blk,PCp w' w.heap.size 0 (fun i=>(Q i).pv) blk/\Pord w.heap.size 0 blk:=by
 obtain⟨i0,hi,hz0,hz1,hz2⟩:=info_parts info_proc;go_enter Tryz.func22,Tryz.ntmps22;go_wp2_with(first|(at_make;refine wpList_make_full _ rfl _ _ 36 rfl w.heap.size 61 i0 _ 1 Tryz.underlying36 hi hz0 hz1 .i64 .i64 _ _ 0 rfl rfl ?c1 ?c2 ?c3 ?c4 ?c5 ?_)|go_in)
 case c1=>rfl
 case c2=>rfl
 case c3=>rw[hz2];omega
 case c4=>unfold maxLen;omega
 case c5=>exact Nat.le_refl _
 ·intro w1 hown hgrow
  have hbel:Below w.heap.size w w1:=(Below.refl _ _).grown hgrow (Nat.le_refl _) (by intro k hk;cases hk);have harr:Arr w1 w.heap.size 0 (pF (fun i=>(Q i).pv) (fun _=>0)):=by
   have:=Arr.made (z:=pF (fun i=>(Q i).pv) (fun _=>0)) hown fun i hi=>by omega
   rwa [Nat.zero_mul]at this
  have HX:Hid (Below w.heap.size w w1/\PCp w1 w.heap.size 0 (fun i=>(Q i).pv) (fun _=>0)):=⟨hbel,harr,fun i hi=>by omega⟩
  clear hown hgrow hi hz0 hz1 hz2 hbel harr;go_wp2;refine wp_loop_rounds 1 ?_;rw[rounds_succ];go_wp2;go_ret;exact⟨rfl,HX.out.1,_,HX.out.2,fun i hi=>by omega,fun i j _ hj=>by omega⟩
theorem toProcS_in(ao:Option Addr)(n cap:Nat)(Q:Nat->PI)(w:World)(hn:n<=1048576)(h:InRow w ao n (piF Q))(hin:∀i,i<n->(Q i).len<=1048576/\InRow w (Q i).ao ((Q i).len*11) (stF (Q i).L)):
 Calls Tryz.prog 22 #[.slice ao n cap] w fun e w'=>e=.returned (.slice (some ⟨w.heap.size,0,none⟩) n n)/\Below w.heap.size w w'/\∃blk,PCp w' w.heap.size n (fun i=>(Q i).pv) blk/\Pord w.heap.size n blk:=by
 rcases h with h|⟨b,off,rfl,h⟩
 ·obtain rfl:n=0:=by omega
  exact toProcS_nil ao cap Q w
 ·exact toProcS_at b off n cap Q w hn h hin
theorem eqProc_same(b len cap b' cap':Nat)(L:Nat->SV)(w:World)(hlen:len<=1048576)(hat:Arr w b (len*11) (stF L))(hat':Arr w b' (len*11) (stF L)):
 Calls Tryz.prog 59 #[.agg #[.slice (some ⟨b,0,none⟩) len cap],.agg #[.slice (some ⟨b',0,none⟩) len cap']] w fun e w'=>e=.returned (.bool true)/\Below w.heap.size w w':=by
 have HA:Hid (Arr w b (len*11) (stF L)):=hat;have HA':Hid (Arr w b' (len*11) (stF L)):=hat';clear hat hat';go_enter Tryz.func59,Tryz.ntmps59;go_wp2_with fail;refine(eqStmtS_same _ _ _ _ _ _ _ L _ hlen ?h1 ?h2).mono ?_
 case h1=>exact HA.out.at.below (((Below.refl _ _).alloc (Nat.le_refl _) _).alloc (by simp) _) HA.out.lt
 case h2=>exact HA'.out.at.below (((Below.refl _ _).alloc (Nat.le_refl _) _).alloc (by simp) _) HA'.out.lt
 rintro e w1⟨rfl,hb1⟩;go_wp2;go_ret;exact⟨rfl,(((Below.refl _ _).alloc (Nat.le_refl _) _).alloc (by simp) _).trans (hb1.mono (by simp;omega))⟩
theorem eqProcS_same(n cap B B' cap':Nat)(Pv:Nat->PV)(blk blk':Nat->Nat)(w:World)(hn:n<=1048576)(hlen:∀i,i<n->(Pv i).n<=1048576)(hc:PCp w B n Pv blk)(hc':PCp w B' n Pv blk'):
 Calls Tryz.prog 34 #[.slice (some ⟨B,0,none⟩) n cap,.slice (some ⟨B',0,none⟩) n cap'] w fun e w'=>e=.returned (.bool true)/\Below w.heap.size w w':=by
 have hb:=hc.r.lt;have hb':=hc'.r.lt;have HA:Hid (PCp w B n Pv blk):=hc;have HA':Hid (PCp w B' n Pv blk'):=hc';have HL:Hid (∀i,i<n->(Pv i).n<=1048576):=hlen;clear hc hc' hlen;go_enter Tryz.func34,Tryz.ntmps34;go_wp2;go_loopw [5](fun i wr=>∃k:Nat,k<=n/\i=.int .i64 k/\Below w.heap.size w wr)(fun i _=>n-(intOf i).toNat)
 case atStart=>exact⟨0,Nat.zero_le _,rfl,Below.refl _ _⟩
 case round=>
  obtain⟨k,hk,rfl,hbr⟩:=hrel;by_cases hlt:k<n
  ·have g0:wr.cell? ⟨B,k,none⟩=some (.slice (some ⟨blk k,0,none⟩) (Pv k).n (Pv k).n):=(hbr.cell (p:=⟨B,k,none⟩) hb).trans (HA.out.r.cell (i:=k) hlt)
   have q0:wr.cell? ⟨B',k,none⟩=some (.slice (some ⟨blk' k,0,none⟩) (Pv k).n (Pv k).n):=(hbr.cell (p:=⟨B',k,none⟩) hb').trans (HA'.out.r.cell (i:=k) hlt);have hlt':(k:Int)<(n:Int):=by omega
   go_wp2_with fail;go_region_with(go_at_call 59;refine(eqProc_same _ _ _ _ _ (Pv k).L _ (HL.out k hlt) ((HA.out.b k hlt).below hbr.drew (HA.out.b k hlt).lt) ((HA'.out.b k hlt).below hbr.drew (HA'.out.b k hlt).lt)).mono ?_;rintro e w'⟨rfl,hb2⟩);all_goals
    clear g0 q0;go_wp2;go_roundw
    case rel=>exact⟨k+1,by omega,by go_num,hbr.drew.trans (hb2.mono hbr.size)⟩
    case measure=>simp[intOf];omega
  ·go_wp2
   go_ret;exact⟨rfl,hbr⟩
theorem szStmtS_ok(ao:Option Addr)(len cap:Nat)(left:Int)(w:World)(hlo:(len:Int)<=left)(hhi:left<=1048576):
 Calls Tryz.prog 63 #[.slice ao len cap,.int .i64 left] w fun e w'=>e=.returned (.int .i64 (left-len))/\w'=w:=by
 go_enter Tryz.func63,Tryz.ntmps63;go_wp2;go_ret;exact⟨rfl,rfl⟩
theorem szStmtS_no(ao:Option Addr)(len cap:Nat)(left:Int)(w:World)(h0:0<=left)(hlo:left<(len:Int))(hm:len<=9223372036854775807):
 Calls Tryz.prog 63 #[.slice ao len cap,.int .i64 left] w fun e w'=>e=.returned (.int .i64 (-1))/\w'=w:=by
 go_enter Tryz.func63,Tryz.ntmps63;go_wp2;go_ret;exact⟨rfl,rfl⟩
theorem szProc_ok(ao:Option Addr)(len cap:Nat)(left:Int)(w:World)(hlo:(len:Int)<=left)(hhi:left<=1048576):
 Calls Tryz.prog 39 #[.agg #[.slice ao len cap],.int .i64 left] w fun e w'=>e=.returned (.int .i64 (left-len))/\Below w.heap.size w w':=by
 go_enter Tryz.func39,Tryz.ntmps39;go_wp2_with fail;refine(szStmtS_ok _ _ _ _ _ hlo hhi).mono ?_;rintro e w1⟨rfl,rfl⟩;go_wp2;go_ret;exact⟨rfl,(Below.refl _ _).alloc (Nat.le_refl _) _⟩
theorem szProc_no(ao:Option Addr)(len cap:Nat)(left:Int)(w:World)(h0:0<=left)(hlo:left<(len:Int))(hm:len<=9223372036854775807):
 Calls Tryz.prog 39 #[.agg #[.slice ao len cap],.int .i64 left] w fun e w'=>e=.returned (.int .i64 (-1))/\Below w.heap.size w w':=by
 go_enter Tryz.func39,Tryz.ntmps39;go_wp2_with fail;refine(szStmtS_no _ _ _ _ _ h0 hlo hm).mono ?_;rintro e w1⟨rfl,rfl⟩;go_wp2;go_ret;exact⟨rfl,(Below.refl _ _).alloc (Nat.le_refl _) _⟩
def LeftU(r left:Int)(small:Prop):Prop:=r= -1∨(0<=r/\r<=left/\small)
theorem szProcS_at(b off n cap:Nat)(Q:Nat->PI)(left:Int)(w:World)(h0:(n:Int)<=left)(h1:left<=1048576)(hat:At w b off n (piF Q))(hm:∀i,i<n->(Q i).len<=9223372036854775807):
 Calls Tryz.prog 14 #[.slice (some ⟨b,off,none⟩) n cap,.int .i64 left] w fun e w'=>∃r,e=.returned (.int .i64 r)/\LeftU r left (∀i,i<n->(Q i).len<=1048576)/\Below w.heap.size w w':=by
 have hb:=hat.lt;have HA:Hid (At w b off n (piF Q)):=hat;have HM:Hid (∀i,i<n->(Q i).len<=9223372036854775807):=hm;clear hat hm;go_enter Tryz.func14,Tryz.ntmps14;go_wp2;go_loopw [1,5](fun l i wr=>∃(k:Nat)(r:Int),k<=n/\i=.int .i64 k/\l=.int .i64 r/\0<=r/\r<=left/\Below w.heap.size w wr/\∀i,i<k->(Q i).len<=1048576)(fun _ i _=>n-(intOf i).toNat)
 case atStart=>exact⟨0,_,Nat.zero_le _,rfl,rfl,by omega,by omega,Below.refl _ _,fun i hi=>by omega⟩
 case round=>
  obtain⟨k,r,hk,rfl,rfl,hr0,hr1,hbr,hsm⟩:=hrel;have HS:Hid (∀i,i<k->(Q i).len<=1048576):=hsm;clear hsm;by_cases hlt:k<n
  ·have g0:wr.cell? ⟨b,off+k,none⟩=some (.slice (Q k).ao (Q k).len (Q k).cap):=(hbr.cell (p:=⟨b,off+k,none⟩) hb).trans (HA.out.cell (i:=k) hlt)
   go_wp2_with fail;by_cases hs:((Q k).len:Int)<=r
   ·refine(szProc_ok _ _ _ _ _ hs (by omega)).mono ?_
    rintro e w1⟨rfl,hb1⟩;clear g0;go_wp2;go_roundw
    case rel=>exact⟨k+1,r-(Q k).len,by omega,by go_num,rfl,by omega,by omega,hbr.trans (hb1.mono hbr.size),fun i hi=>by
     by_cases e:i=k
     ·subst e;omega
     ·exact HS.out i (by omega)⟩
    case measure=>simp[intOf];omega
   ·refine(szProc_no _ _ _ _ _ hr0 (by omega) (HM.out k hlt)).mono ?_
    rintro e w1⟨rfl,hb1⟩;clear g0;go_wp2;go_ret;exact⟨_,rfl,.inl rfl,hbr.trans (hb1.mono hbr.size)⟩
  ·go_wp2
   go_ret;obtain rfl:k=n:=by omega
   exact⟨_,rfl,.inr ⟨hr0,hr1,HS.out⟩,hbr⟩
theorem szProcS_no(ao:Option Addr)(n cap:Nat)(left:Int)(w:World)(h0:0<=left)(hlo:left<(n:Int))(hm:n<=9223372036854775807):
 Calls Tryz.prog 14 #[.slice ao n cap,.int .i64 left] w fun e w'=>e=.returned (.int .i64 (-1))/\Below w.heap.size w w':=by
 go_enter Tryz.func14,Tryz.ntmps14;go_wp2;go_ret;exact⟨rfl,Below.refl _ _⟩
theorem szProcS_nil(ao:Option Addr)(cap:Nat)(left:Int)(w:World)(h0:0<=left)(h1:left<=1048576):
 Calls Tryz.prog 14 #[.slice ao 0 cap,.int .i64 left] w fun e w'=>e=.returned (.int .i64 left)/\Below w.heap.size w w':=by
 go_enter Tryz.func14,Tryz.ntmps14;go_wp2;refine wp_loop_rounds 1 ?_;rw[rounds_succ];go_wp2;go_ret;exact⟨rfl,Below.refl _ _⟩
theorem szProcS_any(ao:Option Addr)(n cap:Nat)(Q:Nat->PI)(left:Int)(w:World)(h0:0<=left)(h1:left<=1048576)(hn:n<=9223372036854775807)(h:InRow w ao n (piF Q))(hm:∀i,i<n->(Q i).len<=9223372036854775807):
 Calls Tryz.prog 14 #[.slice ao n cap,.int .i64 left] w fun e w'=>∃r,e=.returned (.int .i64 r)/\LeftU r left (n<=1048576/\∀i,i<n->(Q i).len<=1048576)/\Below w.heap.size w w':=by
 by_cases hl:(n:Int)<=left
 ·rcases h with h|⟨b,off,rfl,h⟩
  ·obtain rfl:n=0:=by omega
   refine(szProcS_nil ao cap left w h0 h1).mono ?_;rintro e w1⟨rfl,hb⟩;exact⟨_,rfl,.inr ⟨h0,Int.le_refl _,by omega,fun i hi=>by omega⟩,hb⟩
  ·refine(szProcS_at b off n cap Q left w hl h1 h hm).mono ?_
   rintro e w1⟨r,rfl,hr,hb⟩;refine⟨r,rfl,?_,hb⟩;rcases hr with hr|⟨a,b,c⟩
   ·exact .inl hr
   ·exact .inr ⟨a,b,by omega,c⟩
 ·refine(szProcS_no ao n cap left w h0 (by omega) hn).mono ?_
  rintro e w1⟨rfl,hb⟩;exact⟨_,rfl,.inl rfl,hb⟩
end Go.Proofs.YtiphbmhoifggiaaGreatDoor
namespace Go.Proofs.YtiphbmhoifggiaaGreatDoor
open Go.ChangeShapes Go.WideShapes Go.ChangeAt Go.RowKit Go.Deep
theorem cellsU_i64:Tryz.prog.cellsOf 2=1:=by kernel_rfl
theorem cellsU_ins:Tryz.prog.cellsOf 173=6:=by kernel_rfl
theorem cellsU_stmt:Tryz.prog.cellsOf 175=11:=by kernel_rfl
theorem cellsU_stmtS:Tryz.prog.cellsOf 89=1:=by kernel_rfl
theorem cellsU_proc:Tryz.prog.cellsOf 91=1:=by kernel_rfl
section
variable{H:Type}{enc:TypeId×Value->H}{w:World}{base:Nat}{spare:Nat->Bool}{held:Bool}
theorem insU_cells{fuel:Nat}{cs:List Value}{x:DataW H×List MemPlace}(h:DataW.trod enc Tryz.prog w base spare held fuel 173 cs=some x):
 ∃op d a b imm hh:Int,cs=[.int .i64 op,.int .i64 d,.int .i64 a,.int .i64 b,.int .i64 imm,.int .i64 hh]:=by
 obtain⟨xs,n,_,_,hl,hlen,hf⟩:=DataW.trod_struct Tryz.underlying173 h;rw[cellsU_ins]at hl;match cs,hl with
 |[c0,c1,c2,c3,c4,c5],_=>
  match xs,hlen with
  |[y0,y1,y2,y3,y4,y5],_=>
   have h0:=hf 0 _ rfl;have h1:=hf 1 _ rfl;have h2:=hf 2 _ rfl;have h3:=hf 3 _ rfl;have h4:=hf 4 _ rfl;have h5:=hf 5 _ rfl;simp[cellsU_i64]at h0 h1 h2 h3 h4 h5;obtain⟨n0,e0,_⟩:=DataW.trod_int Tryz.underlying2 h0;obtain⟨n1,e1,_⟩:=DataW.trod_int Tryz.underlying2 h1;obtain⟨n2,e2,_⟩:=DataW.trod_int Tryz.underlying2 h2;obtain⟨n3,e3,_⟩:=DataW.trod_int Tryz.underlying2 h3;obtain⟨n4,e4,_⟩:=DataW.trod_int Tryz.underlying2 h4;obtain⟨n5,e5,_⟩:=DataW.trod_int Tryz.underlying2 h5;simp at e0 e1 e2 e3 e4 e5;subst e0 e1 e2 e3 e4 e5;exact⟨_,_,_,_,_,_,rfl⟩
theorem stmtU_cells{fuel:Nat}{cs:List Value}{x:DataW H×List MemPlace}(h:DataW.trod enc Tryz.prog w base spare held fuel 175 cs=some x):
 ∃s:SV,cs=[.int .i64 s.k,.int .i64 s.op,.int .i64 s.d,.int .i64 s.a,.int .i64 s.b,.int .i64 s.imm,.int .i64 s.h,.int .i64 s.cond,.int .i64 s.thn,.int .i64 s.els,.int .i64 s.proc]:=by
 obtain⟨xs,n,_,_,hl,hlen,hf⟩:=DataW.trod_struct Tryz.underlying175 h;rw[cellsU_stmt]at hl;match cs,hl with
 |[c0,c1,c2,c3,c4,c5,c6,c7,c8,c9,c10],_=>
  match xs,hlen with
  |[y0,y1,y2,y3,y4,y5],_=>
   have h0:=hf 0 _ rfl;have h1:=hf 1 _ rfl;have h2:=hf 2 _ rfl;have h3:=hf 3 _ rfl;have h4:=hf 4 _ rfl;have h5:=hf 5 _ rfl;simp[cellsU_i64,cellsU_ins]at h0 h1 h2 h3 h4 h5;obtain⟨n0,e0,_⟩:=DataW.trod_int Tryz.underlying2 h0;obtain⟨op,d,a,b,imm,hh,e1⟩:=insU_cells h1;obtain⟨n2,e2,_⟩:=DataW.trod_int Tryz.underlying2 h2;obtain⟨n3,e3,_⟩:=DataW.trod_int Tryz.underlying2 h3;obtain⟨n4,e4,_⟩:=DataW.trod_int Tryz.underlying2 h4;obtain⟨n5,e5,_⟩:=DataW.trod_int Tryz.underlying2 h5;simp at e0 e1 e2 e3 e4 e5;obtain⟨f0,f1,f2,f3,f4,f5⟩:=e1;subst e0 f0 f1 f2 f3 f4 f5 e2 e3 e4 e5;exact⟨⟨_,_,_,_,_,_,_,_,_,_,_⟩,rfl⟩
theorem sliceU_shape{P:Program}{t e:TypeId}{fuel:Nat}{v:Value}{x:DataW H×List MemPlace}(ht:P.underlying t=some (.slice e))(h:DataW.trod enc P w base spare held fuel t [v]=some x):∃ao len cap,v=.slice ao len cap:=by
 rcases open_slice ht h with⟨h0,_⟩|⟨a,len',cap',m,n,D,Pl,hcs,_⟩
 ·simp only[List.cons.injEq,and_true]at h0;exact⟨_,_,_,h0⟩
 ·simp only[List.cons.injEq,and_true]at hcs;exact⟨_,_,_,hcs⟩
theorem open_stmtS{fuel:Nat}{ao:Option Addr}{len cap:Nat}{x:DataW H×List MemPlace}(h:DataW.trod enc Tryz.prog w base spare held fuel 89 [.slice ao len cap]=some x):len<=maxLen/\∃L,InRow w ao (len*11) (stF L):=by
 obtain⟨hm,f,hin,hel⟩:=open_row Tryz.underlying89 cellsU_stmt (by omega) h;refine⟨hm,?_⟩;have:Inhabited SV:=⟨⟨0,0,0,0,0,0,0,0,0,0,0⟩⟩
 obtain⟨L,hG⟩:=choose_lt (n:=len) (p:=fun i(s:SV)=>∀j,j<11->f (i*11+j)=stC s j) (fun i hi=>by
  obtain⟨n,y,hy⟩:=hel i hi;obtain⟨s,e⟩:=stmtU_cells hy;refine⟨s,fun j hj=>?_⟩;simp[List.range,List.range.loop]at e;obtain⟨e0,e1,e2,e3,e4,e5,e6,e7,e8,e9,e10⟩:=e;match j,hj with
  |0,_=>exact e0
  |1,_=>exact e1
  |2,_=>exact e2
  |3,_=>exact e3
  |4,_=>exact e4
  |5,_=>exact e5
  |6,_=>exact e6
  |7,_=>exact e7
  |8,_=>exact e8
  |9,_=>exact e9
  |10,_=>exact e10)
 refine⟨L,hin.congr fun p hp=>?_⟩;have h1:p/11<len:=by omega
 have:=hG (p/11) h1 (p%11) (by omega);rw[show p/11*11+p%11=p by omega]at this;rw[this];rfl
theorem open_procS{fuel:Nat}{ao:Option Addr}{len cap:Nat}{x:DataW H×List MemPlace}(h:DataW.trod enc Tryz.prog w base spare held fuel 26 [.slice ao len cap]=some x):
 len<=maxLen/\∃Q,InRow w ao len (piF Q)/\∀i,i<len->(Q i).len<=maxLen/\InRow w (Q i).ao ((Q i).len*11) (stF (Q i).L):=by
 obtain⟨hm,f,hin,hel⟩:=open_row Tryz.underlying26 cellsU_proc (by omega) h;refine⟨hm,?_⟩;have:Inhabited PI:=⟨⟨none,0,0,fun _=>⟨0,0,0,0,0,0,0,0,0,0,0⟩⟩⟩
 obtain⟨Q,hG⟩:=choose_lt (n:=len) (p:=fun i(g:PI)=>f i=.slice g.ao g.len g.cap/\g.len<=maxLen/\InRow w g.ao (g.len*11) (stF g.L)) (fun i hi=>by
  obtain⟨n,y,hy⟩:=hel i hi;obtain⟨xs,m,_,_,_,hlen,hf⟩:=DataW.trod_struct Tryz.underlying91 hy;match xs,hlen with
  |[y0],_=>
   have h0:=hf 0 _ rfl;simp[List.range,List.range.loop,cellsU_stmtS]at h0;obtain⟨ao',len',cap',e2⟩:=sliceU_shape Tryz.underlying89 h0;rw[e2]at h0;obtain⟨ml,L,hL⟩:=open_stmtS h0;exact⟨⟨ao',len',cap',L⟩,e2,ml,hL⟩)
 rw[Nat.mul_one]at hin;exact⟨Q,hin.congr fun p hp=>(hG p hp).1,fun i hi=>(hG i hi).2⟩
end
end Go.Proofs.YtiphbmhoifggiaaGreatDoor
