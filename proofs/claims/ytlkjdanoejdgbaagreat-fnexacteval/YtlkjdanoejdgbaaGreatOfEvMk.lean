import Derived.Test.YtlkjdanoejdgbaaGreatOfUnitSpec
import Derived.Test.YtlkjdanoejdgbaaGreatOfCoreF
import Derived.Deep.QuietTactic
import Derived.BigQuiet
import Derived.Deep.RegionWith
import Derived.BigRegion
import Derived.Test.YtlkjdanoejdgbaaGreatOfEvRun
set_option maxHeartbeats 16000000
set_option maxRecDepth 20000
namespace Go.Proofs.YtlkjdanoejdgbaaGreat
open Go.RowKit
def stZ(_:Nat):Value:=.int .i64 0
theorem info_stmt:(Tryz.prog.info? 61).map (fun i=>(i.zero,i.size,i.bytes))=some (some (.agg #[.int .i64 0,.int .i64 0,.int .i64 0,.int .i64 0,.int .i64 0,.int .i64 0,.int .i64 0,.int .i64 0,.int .i64 0,.int .i64 0,.int .i64 0]),11,88):=by kernel_rfl
theorem zeroStmt (i : Nat) : ((Value.agg #[.int .i64 0, .int .i64 0, .int .i64 0, .int .i64 0, .int .i64 0, .int .i64 0, .int .i64 0, .int .i64 0, .int .i64 0, .int .i64 0, .int .i64 0]).cells)[i % ((Value.agg #[.int .i64 0, .int .i64 0, .int .i64 0, .int .i64 0, .int .i64 0, .int .i64 0, .int .i64 0, .int .i64 0, .int .i64 0, .int .i64 0, .int .i64 0]).cells).size]! = stZ i := by
 show (#[Value.int .i64 0, .int .i64 0, .int .i64 0, .int .i64 0, .int .i64 0, .int .i64 0, .int .i64 0, .int .i64 0, .int .i64 0, .int .i64 0, .int .i64 0] : Array Value)[i % 11]! = _;unfold stZ;have : i % 11 < 11 := by omega
 match i % 11, this with
 | 0, _ => rfl
 | 1, _ => rfl
 | 2, _ => rfl
 | 3, _ => rfl
 | 4, _ => rfl
 | 5, _ => rfl
 | 6, _ => rfl
 | 7, _ => rfl
 | 8, _ => rfl
 | 9, _ => rfl
 | 10, _ => rfl
theorem toStmt_any(s:SV)(w:World):
 Calls Tryz.prog 26 #[.agg #[.int .i64 s.k,.int .i64 s.op,.int .i64 s.d,.int .i64 s.a,.int .i64 s.b,.int .i64 s.imm,.int .i64 s.h,.int .i64 s.cond,.int .i64 s.thn,.int .i64 s.els,.int .i64 s.proc]] w fun e w'=>e=.returned (.agg #[.int .i64 s.k,.int .i64 s.op,.int .i64 s.d,.int .i64 s.a,.int .i64 s.b,.int .i64 s.imm,.int .i64 s.h,.int .i64 s.cond,.int .i64 s.thn,.int .i64 s.els,.int .i64 s.proc])/\Below w.heap.size w w':=by
 go_enter Tryz.func26,Tryz.ntmps26;go_wp2_with fail;refine(toIns_any _ _ _ _ _ _ _).mono ?_;rintro e w1⟨rfl,hb1⟩;obtain⟨hc1,hf1⟩:=bcell hb1;have hz1:w.heap.size+2<w1.heap.size:=by have:=hb1.size;simp at this;omega
 have hz2:w.heap.size+1<w1.heap.size:=by omega
 have hz3:w.heap.size<w1.heap.size:=by omega
 have HB:Hid (Below w.heap.size w w1):=((((Below.refl _ _).alloc (Nat.le_refl _) _).alloc (by simp) _).alloc (by simp;omega) _).trans (hb1.mono (by simp;omega));clear hb1;go_wp2;refine bodyPost_ret (v:=.agg #[.int .i64 s.k,.int .i64 s.op,.int .i64 s.d,.int .i64 s.a,.int .i64 s.b,.int .i64 s.imm,.int .i64 s.h,.int .i64 s.cond,.int .i64 s.thn,.int .i64 s.els,.int .i64 s.proc]) (by simp[results,Tryz.results26,go_sem,hc1]) rfl ⟨rfl,?_⟩
 (repeat refine Below.setCell ?_ (by simp;try omega) _)
 exact HB.out
theorem toStmtS_at(b off len cap:Nat)(L:Nat->SV)(w:World)(hlen:len<=1048576)(hat:At w b off (len*11) (stF L)):
 Calls Tryz.prog 7 #[.slice (some ⟨b,off,none⟩) len cap] w fun e w'=>e=.returned (.slice (some ⟨w.heap.size,0,none⟩) len len)/\Below w.heap.size w w'/\Arr w' w.heap.size (len*11) (stF L):=by
 obtain⟨i0,hi,hz0,hz1,hz2⟩:=info_parts info_stmt;have hb:=hat.lt;have HA:Hid (At w b off (len*11) (stF L)):=hat;clear hat;go_enter Tryz.func7,Tryz.ntmps7;go_wp2_with(first|(at_make;refine wpList_make_full _ rfl _ _ 37 rfl w.heap.size 61 i0 _ 11 Tryz.underlying37 hi hz0 hz1 .i64 .i64 _ _ len rfl rfl ?c1 ?c2 ?c3 ?c4 ?c5 ?_)|go_in)
 case c1=>rfl
 case c2=>rfl
 case c3=>rw[hz2];omega
 case c4=>unfold maxLen;omega
 case c5=>exact Nat.le_refl _
 ·intro w1 hown hgrow
  have hbel:Below w.heap.size w w1:=(Below.refl _ _).grown hgrow (Nat.le_refl _) (by intro k hk;cases hk);have harr:Arr w1 w.heap.size (len*11) (upTo (stF L) stZ (0*11)):=Arr.made hown fun i hi=>by
   rw[made_get _ _ _ hi,Nat.zero_mul,upTo_zero];exact congrArg some (zeroStmt i)
  clear hown hgrow hi hz0 hz1 hz2;go_wp2;go_loopw [4](fun i wr=>∃k:Nat,k<=len/\i=.int .i64 k/\Below w.heap.size w wr/\Arr wr w.heap.size (len*11) (upTo (stF L) stZ (k*11)))(fun i _=>len-(intOf i).toNat)
  case atStart=>exact⟨0,Nat.zero_le _,rfl,hbel,harr⟩
  case round=>
   clear harr hbel;obtain⟨k,hk,rfl,hbr,har⟩:=hrel;have HAR:Hid (Arr wr w.heap.size (len*11) (upTo (stF L) stZ (k*11))):=har;have hzr:=har.lt;clear har;by_cases hlt:k<len
   ·have g0:=(hbr.cell (p:=⟨b,off+k*11,none⟩) hb).trans ((HA.out.cell (i:=k*11+0) (by omega)).trans (congrArg some (stF_at L k 0 (by omega))))
    have g1:=(hbr.cell (p:=⟨b,off+k*11+1,none⟩) hb).trans ((HA.out.cell (i:=k*11+1) (by omega)).trans (congrArg some (stF_at L k 1 (by omega))));have g2:=(hbr.cell (p:=⟨b,off+k*11+2,none⟩) hb).trans ((HA.out.cell (i:=k*11+2) (by omega)).trans (congrArg some (stF_at L k 2 (by omega))));have g3:=(hbr.cell (p:=⟨b,off+k*11+3,none⟩) hb).trans ((HA.out.cell (i:=k*11+3) (by omega)).trans (congrArg some (stF_at L k 3 (by omega))));have g4:=(hbr.cell (p:=⟨b,off+k*11+4,none⟩) hb).trans ((HA.out.cell (i:=k*11+4) (by omega)).trans (congrArg some (stF_at L k 4 (by omega))));have g5:=(hbr.cell (p:=⟨b,off+k*11+5,none⟩) hb).trans ((HA.out.cell (i:=k*11+5) (by omega)).trans (congrArg some (stF_at L k 5 (by omega))));have g6:=(hbr.cell (p:=⟨b,off+k*11+6,none⟩) hb).trans ((HA.out.cell (i:=k*11+6) (by omega)).trans (congrArg some (stF_at L k 6 (by omega))));have g7:=(hbr.cell (p:=⟨b,off+k*11+7,none⟩) hb).trans ((HA.out.cell (i:=k*11+7) (by omega)).trans (congrArg some (stF_at L k 7 (by omega))));have g8:=(hbr.cell (p:=⟨b,off+k*11+8,none⟩) hb).trans ((HA.out.cell (i:=k*11+8) (by omega)).trans (congrArg some (stF_at L k 8 (by omega))));have g9:=(hbr.cell (p:=⟨b,off+k*11+9,none⟩) hb).trans ((HA.out.cell (i:=k*11+9) (by omega)).trans (congrArg some (stF_at L k 9 (by omega))));have g10:=(hbr.cell (p:=⟨b,off+k*11+10,none⟩) hb).trans ((HA.out.cell (i:=k*11+10) (by omega)).trans (congrArg some (stF_at L k 10 (by omega))));simp only[stC]at g0 g1 g2 g3 g4 g5 g6 g7 g8 g9 g10;go_wp2_with fail;refine(toStmt_any (L k) _).mono ?_;rintro e w2⟨rfl,hb2⟩;clear g0 g1 g2 g3 g4 g5 g6 g7 g8 g9 g10;have A2:=HAR.out.below hb2 hzr;have f2:=A2.free;have c0:=A2.cell (i:=k*11) (by omega);have c1:=A2.cell (i:=k*11+1) (by omega);have c2:=A2.cell (i:=k*11+2) (by omega);have c3:=A2.cell (i:=k*11+3) (by omega);have c4:=A2.cell (i:=k*11+4) (by omega);have c5:=A2.cell (i:=k*11+5) (by omega);have c6:=A2.cell (i:=k*11+6) (by omega);have c7:=A2.cell (i:=k*11+7) (by omega);have c8:=A2.cell (i:=k*11+8) (by omega);have c9:=A2.cell (i:=k*11+9) (by omega);have c10:=A2.cell (i:=k*11+10) (by omega);have HR:Hid (Arr w2 w.heap.size (len*11) (upTo (stF L) stZ (k*11))):=A2;clear A2;go_wp2;go_roundw
    case rel=>
     refine⟨k+1,by omega,by go_num,below_setCells (Nat.le_refl _) [.int .i64 (L k).k,.int .i64 (L k).op,.int .i64 (L k).d,.int .i64 (L k).a,.int .i64 (L k).b,.int .i64 (L k).imm,.int .i64 (L k).h,.int .i64 (L k).cond,.int .i64 (L k).thn,.int .i64 (L k).els,.int .i64 (L k).proc] (k*11) (hbr.trans (hb2.mono hbr.size)),?_⟩;rw[show(k+1)*11=k*11+11 by omega];exact HR.out.fill (vs:=[.int .i64 (L k).k,.int .i64 (L k).op,.int .i64 (L k).d,.int .i64 (L k).a,.int .i64 (L k).b,.int .i64 (L k).imm,.int .i64 (L k).h,.int .i64 (L k).cond,.int .i64 (L k).thn,.int .i64 (L k).els,.int .i64 (L k).proc]) (by simp;omega) (fun j hj=>by
      have hj':j<11:=by simpa using hj
      rw[stF_at L k j hj'];match j,hj' with
      |0,_=>rfl
      |1,_=>rfl
      |2,_=>rfl
      |3,_=>rfl
      |4,_=>rfl
      |5,_=>rfl
      |6,_=>rfl
      |7,_=>rfl
      |8,_=>rfl
      |9,_=>rfl
      |10,_=>rfl)
    case measure=>simp[intOf];omega
   ·go_wp2
    go_ret;obtain rfl:k=len:=by omega
    exact⟨rfl,hbr,HAR.out.filled⟩
theorem toStmtS_nil(ao:Option Addr)(cap:Nat)(L:Nat->SV)(w:World):
 Calls Tryz.prog 7 #[.slice ao 0 cap] w fun e w'=>e=.returned (.slice (some ⟨w.heap.size,0,none⟩) 0 0)/\Below w.heap.size w w'/\Arr w' w.heap.size (0*11) (stF L):=by
 obtain⟨i0,hi,hz0,hz1,hz2⟩:=info_parts info_stmt;go_enter Tryz.func7,Tryz.ntmps7;go_wp2_with(first|(at_make;refine wpList_make_full _ rfl _ _ 37 rfl w.heap.size 61 i0 _ 11 Tryz.underlying37 hi hz0 hz1 .i64 .i64 _ _ 0 rfl rfl ?c1 ?c2 ?c3 ?c4 ?c5 ?_)|go_in)
 case c1=>rfl
 case c2=>rfl
 case c3=>rw[hz2];omega
 case c4=>unfold maxLen;omega
 case c5=>exact Nat.le_refl _
 ·intro w1 hown hgrow
  have hbel:Below w.heap.size w w1:=(Below.refl _ _).grown hgrow (Nat.le_refl _) (by intro k hk;cases hk);have harr:Arr w1 w.heap.size (0*11) (stF L):=Arr.made hown fun i hi=>by omega
  have HX:Hid (Below w.heap.size w w1/\Arr w1 w.heap.size (0*11) (stF L)):=⟨hbel,harr⟩
  clear hown hgrow hi hz0 hz1 hz2 hbel harr;go_wp2;refine wp_loop_rounds 1 ?_;rw[rounds_succ];go_wp2;go_ret;exact⟨rfl,HX.out.1,HX.out.2⟩
theorem toStmtS_in(ao:Option Addr)(len cap:Nat)(L:Nat->SV)(w:World)(hlen:len<=1048576)(h:InRow w ao (len*11) (stF L)):
 Calls Tryz.prog 7 #[.slice ao len cap] w fun e w'=>e=.returned (.slice (some ⟨w.heap.size,0,none⟩) len len)/\Below w.heap.size w w'/\Arr w' w.heap.size (len*11) (stF L):=by
 rcases h with h|⟨b,off,rfl,h⟩
 ·obtain rfl:len=0:=by omega
  exact toStmtS_nil ao cap L w
 ·exact toStmtS_at b off len cap L w hlen h
theorem eqIns_sameU(op d a b imm h:Int)(w:World):
 Calls Tryz.prog 59 #[.agg #[.int .i64 op,.int .i64 d,.int .i64 a,.int .i64 b,.int .i64 imm,.int .i64 h],.agg #[.int .i64 op,.int .i64 d,.int .i64 a,.int .i64 b,.int .i64 imm,.int .i64 h]] w fun e w'=>e=.returned (.bool true)/\Below w.heap.size w w':=by
 go_enter Tryz.func59,Tryz.ntmps59;go_wp2;go_ret;exact⟨rfl,((Below.refl _ _).alloc (Nat.le_refl _) _).alloc (by simp) _⟩
theorem eqStmt_same(s:SV)(w:World):
 Calls Tryz.prog 34 #[.agg #[.int .i64 s.k,.int .i64 s.op,.int .i64 s.d,.int .i64 s.a,.int .i64 s.b,.int .i64 s.imm,.int .i64 s.h,.int .i64 s.cond,.int .i64 s.thn,.int .i64 s.els,.int .i64 s.proc],.agg #[.int .i64 s.k,.int .i64 s.op,.int .i64 s.d,.int .i64 s.a,.int .i64 s.b,.int .i64 s.imm,.int .i64 s.h,.int .i64 s.cond,.int .i64 s.thn,.int .i64 s.els,.int .i64 s.proc]] w fun e w'=>e=.returned (.bool true)/\Below w.heap.size w w':=by
 go_enter Tryz.func34,Tryz.ntmps34;go_wp2_with fail;refine(eqIns_sameU _ _ _ _ _ _ _).mono ?_;rintro e w1⟨rfl,hb1⟩;obtain⟨hc1,hf1⟩:=bcell hb1;have hz1:w.heap.size+1<w1.heap.size:=by have:=hb1.size;simp at this;omega
 have hz2:w.heap.size<w1.heap.size:=by omega
 have HB:Hid (Below w.heap.size w w1):=(((Below.refl _ _).alloc (Nat.le_refl _) _).alloc (by simp) _).trans (hb1.mono (by simp;omega));clear hb1;go_wp2;go_ret;exact⟨rfl,HB.out⟩
theorem eqStmtS_same(b off len cap b' off' cap':Nat)(L:Nat->SV)(w:World)(hlen:len<=1048576)(hat:At w b off (len*11) (stF L))(hat':At w b' off' (len*11) (stF L)):
 Calls Tryz.prog 11 #[.slice (some ⟨b,off,none⟩) len cap,.slice (some ⟨b',off',none⟩) len cap'] w fun e w'=>e=.returned (.bool true)/\Below w.heap.size w w':=by
 have hb:=hat.lt;have hb':=hat'.lt;have HA:Hid (At w b off (len*11) (stF L)):=hat;have HA':Hid (At w b' off' (len*11) (stF L)):=hat';clear hat hat';go_enter Tryz.func11,Tryz.ntmps11;go_wp2;go_loopw [5](fun i wr=>∃k:Nat,k<=len/\i=.int .i64 k/\Below w.heap.size w wr)(fun i _=>len-(intOf i).toNat)
 case atStart=>exact⟨0,Nat.zero_le _,rfl,Below.refl _ _⟩
 case round=>
  obtain⟨k,hk,rfl,hbr⟩:=hrel;by_cases hlt:k<len
  ·have g0:=(hbr.cell (p:=⟨b,off+k*11,none⟩) hb).trans ((HA.out.cell (i:=k*11+0) (by omega)).trans (congrArg some (stF_at L k 0 (by omega))))
   have g1:=(hbr.cell (p:=⟨b,off+k*11+1,none⟩) hb).trans ((HA.out.cell (i:=k*11+1) (by omega)).trans (congrArg some (stF_at L k 1 (by omega))));have g2:=(hbr.cell (p:=⟨b,off+k*11+2,none⟩) hb).trans ((HA.out.cell (i:=k*11+2) (by omega)).trans (congrArg some (stF_at L k 2 (by omega))));have g3:=(hbr.cell (p:=⟨b,off+k*11+3,none⟩) hb).trans ((HA.out.cell (i:=k*11+3) (by omega)).trans (congrArg some (stF_at L k 3 (by omega))));have g4:=(hbr.cell (p:=⟨b,off+k*11+4,none⟩) hb).trans ((HA.out.cell (i:=k*11+4) (by omega)).trans (congrArg some (stF_at L k 4 (by omega))));have g5:=(hbr.cell (p:=⟨b,off+k*11+5,none⟩) hb).trans ((HA.out.cell (i:=k*11+5) (by omega)).trans (congrArg some (stF_at L k 5 (by omega))));have g6:=(hbr.cell (p:=⟨b,off+k*11+6,none⟩) hb).trans ((HA.out.cell (i:=k*11+6) (by omega)).trans (congrArg some (stF_at L k 6 (by omega))));have g7:=(hbr.cell (p:=⟨b,off+k*11+7,none⟩) hb).trans ((HA.out.cell (i:=k*11+7) (by omega)).trans (congrArg some (stF_at L k 7 (by omega))));have g8:=(hbr.cell (p:=⟨b,off+k*11+8,none⟩) hb).trans ((HA.out.cell (i:=k*11+8) (by omega)).trans (congrArg some (stF_at L k 8 (by omega))));have g9:=(hbr.cell (p:=⟨b,off+k*11+9,none⟩) hb).trans ((HA.out.cell (i:=k*11+9) (by omega)).trans (congrArg some (stF_at L k 9 (by omega))));have g10:=(hbr.cell (p:=⟨b,off+k*11+10,none⟩) hb).trans ((HA.out.cell (i:=k*11+10) (by omega)).trans (congrArg some (stF_at L k 10 (by omega))));have q0:=(hbr.cell (p:=⟨b',off'+k*11,none⟩) hb').trans ((HA'.out.cell (i:=k*11+0) (by omega)).trans (congrArg some (stF_at L k 0 (by omega))));have q1:=(hbr.cell (p:=⟨b',off'+k*11+1,none⟩) hb').trans ((HA'.out.cell (i:=k*11+1) (by omega)).trans (congrArg some (stF_at L k 1 (by omega))));have q2:=(hbr.cell (p:=⟨b',off'+k*11+2,none⟩) hb').trans ((HA'.out.cell (i:=k*11+2) (by omega)).trans (congrArg some (stF_at L k 2 (by omega))));have q3:=(hbr.cell (p:=⟨b',off'+k*11+3,none⟩) hb').trans ((HA'.out.cell (i:=k*11+3) (by omega)).trans (congrArg some (stF_at L k 3 (by omega))));have q4:=(hbr.cell (p:=⟨b',off'+k*11+4,none⟩) hb').trans ((HA'.out.cell (i:=k*11+4) (by omega)).trans (congrArg some (stF_at L k 4 (by omega))));have q5:=(hbr.cell (p:=⟨b',off'+k*11+5,none⟩) hb').trans ((HA'.out.cell (i:=k*11+5) (by omega)).trans (congrArg some (stF_at L k 5 (by omega))));have q6:=(hbr.cell (p:=⟨b',off'+k*11+6,none⟩) hb').trans ((HA'.out.cell (i:=k*11+6) (by omega)).trans (congrArg some (stF_at L k 6 (by omega))));have q7:=(hbr.cell (p:=⟨b',off'+k*11+7,none⟩) hb').trans ((HA'.out.cell (i:=k*11+7) (by omega)).trans (congrArg some (stF_at L k 7 (by omega))));have q8:=(hbr.cell (p:=⟨b',off'+k*11+8,none⟩) hb').trans ((HA'.out.cell (i:=k*11+8) (by omega)).trans (congrArg some (stF_at L k 8 (by omega))));have q9:=(hbr.cell (p:=⟨b',off'+k*11+9,none⟩) hb').trans ((HA'.out.cell (i:=k*11+9) (by omega)).trans (congrArg some (stF_at L k 9 (by omega))))
   have q10:=(hbr.cell (p:=⟨b',off'+k*11+10,none⟩) hb').trans ((HA'.out.cell (i:=k*11+10) (by omega)).trans (congrArg some (stF_at L k 10 (by omega))));simp only[stC]at g0 g1 g2 g3 g4 g5 g6 g7 g8 g9 g10 q0 q1 q2 q3 q4 q5 q6 q7 q8 q9 q10;have hlt':(k:Int)<(len:Int):=by omega
   go_wp2_with fail;go_region_with(go_at_call 34;refine(eqStmt_same (L k) _).mono ?_;rintro e w'⟨rfl,hb2⟩);all_goals
    clear g0 g1 g2 g3 g4 g5 g6 g7 g8 g9 g10 q0 q1 q2 q3 q4 q5 q6 q7 q8 q9 q10;go_wp2;go_roundw
    case rel=>exact⟨k+1,by omega,by go_num,hbr.drew.trans (hb2.mono hbr.size)⟩
    case measure=>simp[intOf];omega
  ·go_wp2
   go_ret;exact⟨rfl,hbr⟩
def markL(k:Int)(p:Nat):Value:=.int .i64 (k+(p:Int))
theorem markSt_at(b n cap:Nat)(f:Nat->Value)(k:Int)(w:World)(ln:n<=1048576)(k0:0<=k)(k1:k<=1125899906842624)(hA:Arr w b (n*11) f):
 Calls Tryz.prog 13 #[.slice (some ⟨b,0,none⟩) n cap,.int .i64 k] w fun e w'=>e=.returned (.int .i64 (k+11*(n:Int)))/\Ft b w w'/\Arr w' b (n*11) (markL k):=by
 have HA:Hid (Arr w b (n*11) f):=hA;clear hA;go_enter Tryz.func13,Tryz.ntmps13;go_wp2;go_loopw [1,5](fun kv iv wr=>∃j:Nat,j<=n/\kv=.int .i64 (k+11*(j:Int))/\iv=.int .i64 (j:Int)/\Ft b w wr/\Arr wr b (n*11) (upTo (markL k) f (j*11)))(fun _ iv _=>n-(intOf iv).toNat)
 case atStart=>exact⟨0,Nat.zero_le _,by simp,rfl,Ft.refl _ _,HA.out.congr fun i _=>by rw[Nat.zero_mul,upTo_zero]⟩
 case round=>
  obtain⟨j,hj,hkv,hiv,hf,ha⟩:=hrel;obtain⟨kj,hkj⟩:∃y:Int,k+11*(j:Int)=y:=⟨_,rfl⟩
  rw[hkj]at hkv;subst hkv hiv;have HKJ:Hid (k+11*(j:Int)=kj):=hkj;have kb0:0<=kj:=by omega
  have kb1:kj<=2251799813685248:=by omega
  have F2:Hid (Ft b w wr):=hf;have A2:Hid (Arr wr b (n*11) (upTo (markL k) f (j*11))):=ha;clear hf ha hkj;by_cases hlt:j<n
  ·have hlt':(j:Int)<(n:Int):=by omega
   have c0:=A2.out.cell (i:=j*11) (by omega);have c1:=A2.out.cell (i:=j*11+1) (by omega);have c2:=A2.out.cell (i:=j*11+2) (by omega);have c3:=A2.out.cell (i:=j*11+3) (by omega);have c4:=A2.out.cell (i:=j*11+4) (by omega);have c5:=A2.out.cell (i:=j*11+5) (by omega);have c6:=A2.out.cell (i:=j*11+6) (by omega);have c7:=A2.out.cell (i:=j*11+7) (by omega);have c8:=A2.out.cell (i:=j*11+8) (by omega);have c9:=A2.out.cell (i:=j*11+9) (by omega);have c10:=A2.out.cell (i:=j*11+10) (by omega);have cf:=A2.out.free;have cl:=A2.out.lt;have A3:Hid (Arr (wr.setCells b (j*11) [.int .i64 kj,.int .i64 (kj+1),.int .i64 (kj+1+1),.int .i64 (kj+1+1+1),.int .i64 (kj+1+1+1+1),.int .i64 (kj+1+1+1+1+1),.int .i64 (kj+1+1+1+1+1+1),.int .i64 (kj+1+1+1+1+1+1+1),.int .i64 (kj+1+1+1+1+1+1+1+1),.int .i64 (kj+1+1+1+1+1+1+1+1+1),.int .i64 (kj+1+1+1+1+1+1+1+1+1+1)]) b (n*11) (upTo (markL k) f ((j+1)*11))):=(by
    rw[show(j+1)*11=j*11+11 by omega];exact A2.out.fill (vs:=[.int .i64 kj,.int .i64 (kj+1),.int .i64 (kj+1+1),.int .i64 (kj+1+1+1),.int .i64 (kj+1+1+1+1),.int .i64 (kj+1+1+1+1+1),.int .i64 (kj+1+1+1+1+1+1),.int .i64 (kj+1+1+1+1+1+1+1),.int .i64 (kj+1+1+1+1+1+1+1+1),.int .i64 (kj+1+1+1+1+1+1+1+1+1),.int .i64 (kj+1+1+1+1+1+1+1+1+1+1)]) (by simp;omega) (fun c hc=>by
     have hc':c<11:=by simpa using hc
     match c,hc' with
     |0,_=>exact congrArg (Value.int .i64) (by have:=HKJ.out;omega)
     |1,_=>exact congrArg (Value.int .i64) (by have:=HKJ.out;omega)
     |2,_=>exact congrArg (Value.int .i64) (by have:=HKJ.out;omega)
     |3,_=>exact congrArg (Value.int .i64) (by have:=HKJ.out;omega)
     |4,_=>exact congrArg (Value.int .i64) (by have:=HKJ.out;omega)
     |5,_=>exact congrArg (Value.int .i64) (by have:=HKJ.out;omega)
     |6,_=>exact congrArg (Value.int .i64) (by have:=HKJ.out;omega)
     |7,_=>exact congrArg (Value.int .i64) (by have:=HKJ.out;omega)
     |8,_=>exact congrArg (Value.int .i64) (by have:=HKJ.out;omega)
     |9,_=>exact congrArg (Value.int .i64) (by have:=HKJ.out;omega)
     |10,_=>exact congrArg (Value.int .i64) (by have:=HKJ.out;omega)):Arr (wr.setCells b (j*11) [.int .i64 kj,.int .i64 (kj+1),.int .i64 (kj+1+1),.int .i64 (kj+1+1+1),.int .i64 (kj+1+1+1+1),.int .i64 (kj+1+1+1+1+1),.int .i64 (kj+1+1+1+1+1+1),.int .i64 (kj+1+1+1+1+1+1+1),.int .i64 (kj+1+1+1+1+1+1+1+1),.int .i64 (kj+1+1+1+1+1+1+1+1+1),.int .i64 (kj+1+1+1+1+1+1+1+1+1+1)]) b (n*11) (upTo (markL k) f ((j+1)*11)))
   have F3:Hid (Ft b w (wr.setCells b (j*11) [.int .i64 kj,.int .i64 (kj+1),.int .i64 (kj+1+1),.int .i64 (kj+1+1+1),.int .i64 (kj+1+1+1+1),.int .i64 (kj+1+1+1+1+1),.int .i64 (kj+1+1+1+1+1+1),.int .i64 (kj+1+1+1+1+1+1+1),.int .i64 (kj+1+1+1+1+1+1+1+1),.int .i64 (kj+1+1+1+1+1+1+1+1+1),.int .i64 (kj+1+1+1+1+1+1+1+1+1+1)])):=(((((((((((F2.out.set _ _).set _ _).set _ _).set _ _).set _ _).set _ _).set _ _).set _ _).set _ _).set _ _).set _ _)
   go_wp2;go_roundw
   case rel=>exact⟨j+1,by omega,congrArg (Value.int .i64) (by have:=HKJ.out;omega),by go_num,F3.out,A3.out⟩
   case measure=>simp[intOf];omega
  ·obtain rfl:j=n:=by omega
   have hlt':¬(j:Int)<(j:Int):=by omega
   go_wp2;go_ret;exact⟨ret_int HKJ.out.symm,F2.out,A2.out.filled⟩
theorem szSt_ok(ao:Option Addr)(len cap:Nat)(left:Int)(w:World)(hlo:(len:Int)<=left)(hhi:left<=1048576):
 Calls Tryz.prog 4 #[.slice ao len cap,.int .i64 left] w fun e w'=>e=.returned (.int .i64 (left-len))/\w'=w:=by
 go_enter Tryz.func4,Tryz.ntmps4;go_wp2;go_ret;exact⟨rfl,rfl⟩
theorem szSt_no(ao:Option Addr)(len cap:Nat)(left:Int)(w:World)(h0:0<=left)(hlo:left<(len:Int))(hm:len<=9223372036854775807):
 Calls Tryz.prog 4 #[.slice ao len cap,.int .i64 left] w fun e w'=>e=.returned (.int .i64 (-1))/\w'=w:=by
 go_enter Tryz.func4,Tryz.ntmps4;go_wp2;go_ret;exact⟨rfl,rfl⟩
end Go.Proofs.YtlkjdanoejdgbaaGreat
