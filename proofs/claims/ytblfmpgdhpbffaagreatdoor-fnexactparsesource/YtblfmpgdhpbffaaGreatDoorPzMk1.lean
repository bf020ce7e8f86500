import Derived.Test.YtblfmpgdhpbffaaGreatDoorOfPzBody
import Derived.Test.YtblfmpgdhpbffaaGreatDoorAsmMark
import Derived.Test.YtblfmpgdhpbffaaGreatDoorOfValRows
import Derived.Test.YtblfmpgdhpbffaaGreatDoorOfUnitBlock
import Derived.Test.YtblfmpgdhpbffaaGreatDoorOfOpenRow
import Derived.WalkLawsBesides
import Derived.Deep.QuietTactic
import Derived.BigQuiet
import Derived.Deep.RegionWith
import Derived.BigRegion
set_option maxHeartbeats 16000000
set_option maxRecDepth 20000
namespace Go.Proofs.YtblfmpgdhpbffaaGreatDoor
open Go.RowKit
theorem toByteS_at(b off len cap:Nat)(R:Nat->Int)(w:World)(hlen:len<=1048576)(hat:At w b off len (numF .u8 R)):
 Calls Tryz.prog 5 #[.slice (some ⟨b,off,none⟩) len cap] w fun e w'=>e=.returned (.slice (some ⟨w.heap.size,0,none⟩) len len)/\Below w.heap.size w w'/\Arr w' w.heap.size len (numF .u8 R):=by
 obtain⟨i0,hi,hz0,hz1,hz2⟩:=info_parts info_u8;have hb:=hat.lt;have HA:Hid (At w b off len (numF .u8 R)):=hat;clear hat;go_enter Tryz.func5,Tryz.ntmps5;go_wp2_with(first|(at_make;refine wpList_make_full _ rfl _ _ 22 rfl w.heap.size 5 i0 _ 1 Tryz.underlying22 hi hz0 hz1 .i64 .i64 _ _ len rfl rfl ?c1 ?c2 ?c3 ?c4 ?c5 ?_)|go_in)
 case c1=>rfl
 case c2=>rfl
 case c3=>rw[hz2];omega
 case c4=>unfold maxLen;omega
 case c5=>exact Nat.le_refl _
 ·intro w1 hown hgrow
  have hbel:Below w.heap.size w w1:=(Below.refl _ _).grown hgrow (Nat.le_refl _) (by intro k hk;cases hk);have harr:Arr w1 w.heap.size len (upTo (numF .u8 R) (fun _=>.int .u8 0) 0):=by
   have:=Arr.made (z:=upTo (numF .u8 R) (fun _=>.int .u8 0) 0) hown fun i hi=>by
    rw[made_get _ len i (by omega),upTo_zero];simp[Nat.mod_one]
   rwa [Nat.mul_one]at this
  clear hown hgrow hi hz0 hz1 hz2;go_wp2;go_loopw [4](fun i wr=>∃k:Nat,k<=len/\i=.int .i64 k/\Below w.heap.size w wr/\Arr wr w.heap.size len (upTo (numF .u8 R) (fun _=>.int .u8 0) k))(fun i _=>len-(intOf i).toNat)
  case atStart=>exact⟨0,Nat.zero_le _,rfl,hbel,harr⟩
  case round=>
   clear harr hbel;obtain⟨k,hk,rfl,hbr,har⟩:=hrel;have HAR:Hid (Arr wr w.heap.size len (upTo (numF .u8 R) (fun _=>.int .u8 0) k)):=har;clear har;by_cases hlt:k<len
   ·have g0:wr.cell? ⟨b,off+k,none⟩=some (.int .u8 (R k)):=(hbr.cell (p:=⟨b,off+k,none⟩) hb).trans (HA.out.cell (i:=k) hlt)
    have f2:=HAR.out.free;have c0:=HAR.out.cell (i:=k) hlt;go_wp2;go_roundw
    case rel=>exact⟨k+1,by omega,by go_num,below_setCells (Nat.le_refl _) [.int .u8 (R k)] k hbr,HAR.out.fill (vs:=[.int .u8 (R k)]) (by simp;omega) (fun j hj=>by simp at hj;subst hj;rfl)⟩
    case measure=>simp[intOf];omega
   ·go_wp2
    go_ret;obtain rfl:k=len:=by omega
    exact⟨rfl,hbr,HAR.out.filled⟩
theorem toByteS_nil(ao:Option Addr)(cap:Nat)(R:Nat->Int)(w:World):
 Calls Tryz.prog 5 #[.slice ao 0 cap] w fun e w'=>e=.returned (.slice (some ⟨w.heap.size,0,none⟩) 0 0)/\Below w.heap.size w w'/\Arr w' w.heap.size 0 (numF .u8 R):=by
 obtain⟨i0,hi,hz0,hz1,hz2⟩:=info_parts info_u8;go_enter Tryz.func5,Tryz.ntmps5;go_wp2_with(first|(at_make;refine wpList_make_full _ rfl _ _ 22 rfl w.heap.size 5 i0 _ 1 Tryz.underlying22 hi hz0 hz1 .i64 .i64 _ _ 0 rfl rfl ?c1 ?c2 ?c3 ?c4 ?c5 ?_)|go_in)
 case c1=>rfl
 case c2=>rfl
 case c3=>rw[hz2];omega
 case c4=>unfold maxLen;omega
 case c5=>exact Nat.le_refl _
 ·intro w1 hown hgrow
  have hbel:Below w.heap.size w w1:=(Below.refl _ _).grown hgrow (Nat.le_refl _) (by intro k hk;cases hk);have harr:Arr w1 w.heap.size (0*1) (numF .u8 R):=Arr.made hown fun i hi=>by omega
  have HX:Hid (Below w.heap.size w w1/\Arr w1 w.heap.size (0*1) (numF .u8 R)):=⟨hbel,harr⟩
  clear hown hgrow hi hz0 hz1 hz2 hbel harr;go_wp2;refine wp_loop_rounds 1 ?_;rw[rounds_succ];go_wp2;go_ret;exact⟨rfl,HX.out.1,HX.out.2⟩
theorem toByteS_in(ao:Option Addr)(len cap:Nat)(R:Nat->Int)(w:World)(hlen:len<=1048576)(h:InRow w ao len (numF .u8 R)):
 Calls Tryz.prog 5 #[.slice ao len cap] w fun e w'=>e=.returned (.slice (some ⟨w.heap.size,0,none⟩) len len)/\Below w.heap.size w w'/\Arr w' w.heap.size len (numF .u8 R):=by
 rcases h with rfl|⟨b,off,rfl,h⟩
 ·exact toByteS_nil ao cap R w
 ·exact toByteS_at b off len cap R w hlen h
theorem eqIns_sameU(op d a b imm h:Int)(w:World):
 Calls Tryz.prog 149 #[.agg #[.int .i64 op,.int .i64 d,.int .i64 a,.int .i64 b,.int .i64 imm,.int .i64 h],.agg #[.int .i64 op,.int .i64 d,.int .i64 a,.int .i64 b,.int .i64 imm,.int .i64 h]] w fun e w'=>e=.returned (.bool true)/\Below w.heap.size w w':=by
 go_enter Tryz.func149,Tryz.ntmps149;go_wp2;go_ret;exact⟨rfl,((Below.refl _ _).alloc (Nat.le_refl _) _).alloc (by simp) _⟩
theorem eqStmt_same(s:SV)(w:World):
 Calls Tryz.prog 129 #[.agg #[.int .i64 s.k,.int .i64 s.op,.int .i64 s.d,.int .i64 s.a,.int .i64 s.b,.int .i64 s.imm,.int .i64 s.h,.int .i64 s.cond,.int .i64 s.thn,.int .i64 s.els,.int .i64 s.proc],.agg #[.int .i64 s.k,.int .i64 s.op,.int .i64 s.d,.int .i64 s.a,.int .i64 s.b,.int .i64 s.imm,.int .i64 s.h,.int .i64 s.cond,.int .i64 s.thn,.int .i64 s.els,.int .i64 s.proc]] w fun e w'=>e=.returned (.bool true)/\Below w.heap.size w w':=by
 go_enter Tryz.func129,Tryz.ntmps129;go_wp2_with fail;refine(eqIns_sameU _ _ _ _ _ _ _).mono ?_;rintro e w1⟨rfl,hb1⟩;obtain⟨hc1,hf1⟩:=bcell hb1;have hz1:w.heap.size+1<w1.heap.size:=by have:=hb1.size;simp at this;omega
 have hz2:w.heap.size<w1.heap.size:=by omega
 have HB:Hid (Below w.heap.size w w1):=(((Below.refl _ _).alloc (Nat.le_refl _) _).alloc (by simp) _).trans (hb1.mono (by simp;omega));clear hb1;go_wp2;go_ret;exact⟨rfl,HB.out⟩
theorem eqStmtS_same(b off len cap b' off' cap':Nat)(L:Nat->SV)(w:World)(hlen:len<=1048576)(hat:At w b off (len*11) (stF L))(hat':At w b' off' (len*11) (stF L)):
 Calls Tryz.prog 114 #[.slice (some ⟨b,off,none⟩) len cap,.slice (some ⟨b',off',none⟩) len cap'] w fun e w'=>e=.returned (.bool true)/\Below w.heap.size w w':=by
 have hb:=hat.lt;have hb':=hat'.lt;have HA:Hid (At w b off (len*11) (stF L)):=hat;have HA':Hid (At w b' off' (len*11) (stF L)):=hat';clear hat hat';go_enter Tryz.func114,Tryz.ntmps114;go_wp2;go_loopw [5](fun i wr=>∃k:Nat,k<=len/\i=.int .i64 k/\Below w.heap.size w wr)(fun i _=>len-(intOf i).toNat)
 case atStart=>exact⟨0,Nat.zero_le _,rfl,Below.refl _ _⟩
 case round=>
  obtain⟨k,hk,rfl,hbr⟩:=hrel;by_cases hlt:k<len
  ·have g0:=(hbr.cell (p:=⟨b,off+k*11,none⟩) hb).trans ((HA.out.cell (i:=k*11+0) (by omega)).trans (congrArg some (stF_at L k 0 (by omega))))
   have g1:=(hbr.cell (p:=⟨b,off+k*11+1,none⟩) hb).trans ((HA.out.cell (i:=k*11+1) (by omega)).trans (congrArg some (stF_at L k 1 (by omega))));have g2:=(hbr.cell (p:=⟨b,off+k*11+2,none⟩) hb).trans ((HA.out.cell (i:=k*11+2) (by omega)).trans (congrArg some (stF_at L k 2 (by omega))));have g3:=(hbr.cell (p:=⟨b,off+k*11+3,none⟩) hb).trans ((HA.out.cell (i:=k*11+3) (by omega)).trans (congrArg some (stF_at L k 3 (by omega))));have g4:=(hbr.cell (p:=⟨b,off+k*11+4,none⟩) hb).trans ((HA.out.cell (i:=k*11+4) (by omega)).trans (congrArg some (stF_at L k 4 (by omega))));have g5:=(hbr.cell (p:=⟨b,off+k*11+5,none⟩) hb).trans ((HA.out.cell (i:=k*11+5) (by omega)).trans (congrArg some (stF_at L k 5 (by omega))));have g6:=(hbr.cell (p:=⟨b,off+k*11+6,none⟩) hb).trans ((HA.out.cell (i:=k*11+6) (by omega)).trans (congrArg some (stF_at L k 6 (by omega))));have g7:=(hbr.cell (p:=⟨b,off+k*11+7,none⟩) hb).trans ((HA.out.cell (i:=k*11+7) (by omega)).trans (congrArg some (stF_at L k 7 (by omega))));have g8:=(hbr.cell (p:=⟨b,off+k*11+8,none⟩) hb).trans ((HA.out.cell (i:=k*11+8) (by omega)).trans (congrArg some (stF_at L k 8 (by omega))));have g9:=(hbr.cell (p:=⟨b,off+k*11+9,none⟩) hb).trans ((HA.out.cell (i:=k*11+9) (by omega)).trans (congrArg some (stF_at L k 9 (by omega))));have g10:=(hbr.cell (p:=⟨b,off+k*11+10,none⟩) hb).trans ((HA.out.cell (i:=k*11+10) (by omega)).trans (congrArg some (stF_at L k 10 (by omega))));have q0:=(hbr.cell (p:=⟨b',off'+k*11,none⟩) hb').trans ((HA'.out.cell (i:=k*11+0) (by omega)).trans (congrArg some (stF_at L k 0 (by omega))));have q1:=(hbr.cell (p:=⟨b',off'+k*11+1,none⟩) hb').trans ((HA'.out.cell (i:=k*11+1) (by omega)).trans (congrArg some (stF_at L k 1 (by omega))));have q2:=(hbr.cell (p:=⟨b',off'+k*11+2,none⟩) hb').trans ((HA'.out.cell (i:=k*11+2) (by omega)).trans (congrArg some (stF_at L k 2 (by omega))));have q3:=(hbr.cell (p:=⟨b',off'+k*11+3,none⟩) hb').trans ((HA'.out.cell (i:=k*11+3) (by omega)).trans (congrArg some (stF_at L k 3 (by omega))));have q4:=(hbr.cell (p:=⟨b',off'+k*11+4,none⟩) hb').trans ((HA'.out.cell (i:=k*11+4) (by omega)).trans (congrArg some (stF_at L k 4 (by omega))));have q5:=(hbr.cell (p:=⟨b',off'+k*11+5,none⟩) hb').trans ((HA'.out.cell (i:=k*11+5) (by omega)).trans (congrArg some (stF_at L k 5 (by omega))));have q6:=(hbr.cell (p:=⟨b',off'+k*11+6,none⟩) hb').trans ((HA'.out.cell (i:=k*11+6) (by omega)).trans (congrArg some (stF_at L k 6 (by omega))));have q7:=(hbr.cell (p:=⟨b',off'+k*11+7,none⟩) hb').trans ((HA'.out.cell (i:=k*11+7) (by omega)).trans (congrArg some (stF_at L k 7 (by omega))));have q8:=(hbr.cell (p:=⟨b',off'+k*11+8,none⟩) hb').trans ((HA'.out.cell (i:=k*11+8) (by omega)).trans (congrArg some (stF_at L k 8 (by omega))));have q9:=(hbr.cell (p:=⟨b',off'+k*11+9,none⟩) hb').trans ((HA'.out.cell (i:=k*11+9) (by omega)).trans (congrArg some (stF_at L k 9 (by omega))))
   have q10:=(hbr.cell (p:=⟨b',off'+k*11+10,none⟩) hb').trans ((HA'.out.cell (i:=k*11+10) (by omega)).trans (congrArg some (stF_at L k 10 (by omega))));simp only[stC]at g0 g1 g2 g3 g4 g5 g6 g7 g8 g9 g10 q0 q1 q2 q3 q4 q5 q6 q7 q8 q9 q10;have hlt':(k:Int)<(len:Int):=by omega
   go_wp2_with fail;go_region_with(go_at_call 129;refine(eqStmt_same (L k) _).mono ?_;rintro e w'⟨rfl,hb2⟩);all_goals
    clear g0 g1 g2 g3 g4 g5 g6 g7 g8 g9 g10 q0 q1 q2 q3 q4 q5 q6 q7 q8 q9 q10;go_wp2;go_roundw
    case rel=>exact⟨k+1,by omega,by go_num,hbr.drew.trans (hb2.mono hbr.size)⟩
    case measure=>simp[intOf];omega
  ·go_wp2
   go_ret;exact⟨rfl,hbr⟩
def markF(k:Int)(p:Nat):Value:=.int .i64 (k+(p:Int))
theorem markStmtS_at(b n cap:Nat)(f:Nat->Value)(k:Int)(w:World)(ln:n<=1048576)(k0:0<=k)(k1:k<=1125899906842624)(hA:Arr w b (n*11) f):
 Calls Tryz.prog 75 #[.slice (some ⟨b,0,none⟩) n cap,.int .i64 k] w fun e w'=>e=.returned (.int .i64 (k+11*(n:Int)))/\Fr (fun q=>q=b) w w'/\Arr w' b (n*11) (markF k):=by
 have HA:Hid (Arr w b (n*11) f):=hA;clear hA;go_enter Tryz.func75,Tryz.ntmps75;go_wp2;go_loopw [1,5](fun kv iv wr=>∃j:Nat,j<=n/\kv=.int .i64 (k+11*(j:Int))/\iv=.int .i64 (j:Int)/\Fr (fun q=>q=b) w wr/\Arr wr b (n*11) (upTo (markF k) f (j*11)))(fun _ iv _=>n-(intOf iv).toNat)
 case atStart=>exact⟨0,Nat.zero_le _,by simp,rfl,Fr.refl _ _,HA.out.congr fun i _=>by rw[Nat.zero_mul,upTo_zero]⟩
 case round=>
  obtain⟨j,hj,hkv,hiv,hf,ha⟩:=hrel;obtain⟨kj,hkj⟩:∃y:Int,k+11*(j:Int)=y:=⟨_,rfl⟩
  rw[hkj]at hkv;subst hkv hiv;have HKJ:Hid (k+11*(j:Int)=kj):=hkj;have kb0:0<=kj:=by omega
  have kb1:kj<=2251799813685248:=by omega
  have F2:Hid (Fr (fun q=>q=b) w wr):=hf;have A2:Hid (Arr wr b (n*11) (upTo (markF k) f (j*11))):=ha;clear hf ha hkj;by_cases hlt:j<n
  ·have hlt':(j:Int)<(n:Int):=by omega
   have c0:=A2.out.cell (i:=j*11) (by omega);have c1:=A2.out.cell (i:=j*11+1) (by omega);have c2:=A2.out.cell (i:=j*11+2) (by omega);have c3:=A2.out.cell (i:=j*11+3) (by omega);have c4:=A2.out.cell (i:=j*11+4) (by omega);have c5:=A2.out.cell (i:=j*11+5) (by omega);have c6:=A2.out.cell (i:=j*11+6) (by omega);have c7:=A2.out.cell (i:=j*11+7) (by omega);have c8:=A2.out.cell (i:=j*11+8) (by omega);have c9:=A2.out.cell (i:=j*11+9) (by omega);have c10:=A2.out.cell (i:=j*11+10) (by omega);have cf:=A2.out.free;have cl:=A2.out.lt;have A3:Hid (Arr (wr.setCells b (j*11) [.int .i64 kj,.int .i64 (kj+1),.int .i64 (kj+1+1),.int .i64 (kj+1+1+1),.int .i64 (kj+1+1+1+1),.int .i64 (kj+1+1+1+1+1),.int .i64 (kj+1+1+1+1+1+1),.int .i64 (kj+1+1+1+1+1+1+1),.int .i64 (kj+1+1+1+1+1+1+1+1),.int .i64 (kj+1+1+1+1+1+1+1+1+1),.int .i64 (kj+1+1+1+1+1+1+1+1+1+1)]) b (n*11) (upTo (markF k) f ((j+1)*11))):=(by
    rw[show(j+1)*11=j*11+11 by omega];exact A2.out.fill (vs:=[.int .i64 kj,.int .i64 (kj+1),.int .i64 (kj+1+1),.int .i64 (kj+1+1+1),.int .i64 (kj+1+1+1+1),.int .i64 (kj+1+1+1+1+1),.int .i64 (kj+1+1+1+1+1+1),.int .i64 (kj+1+1+1+1+1+1+1),.int .i64 (kj+1+1+1+1+1+1+1+1),.int .i64 (kj+1+1+1+1+1+1+1+1+1),.int .i64 (kj+1+1+1+1+1+1+1+1+1+1)]) (by simp;omega) (fun c hc=>by
     have hc':c<11:=by simpa using hc
     match c,hc' with
     |0,_=>exact congrArg (Value.int .i64) (by have:=HKJ.out;omega)
     |1,_=>exact congrArg (Value.int .i64) (by have:=HKJ.out;omega)
     |2,_=>exact congrArg (Value.int .i64) (by have:=HKJ.out;omega)
     |3,_=>exact congrArg (Value.int .i64) (by have:=HKJ.out;omega)
     |4,_=>exact congrArg (Value.int .i64) (by have:=HKJ.out;omega)
     |5,_=>exact congrArg (Value.int .i64) (by have:=HKJ.out;omega)
     |6,_=>exact congrArg (Value.int .i64) (by have:=HKJ.out;omega)
     |7,_=>exact congrArg (Value.int .i64) (by have:=HKJ.out;omega)
     |8,_=>exact congrArg (Value.int .i64) (by have:=HKJ.out;omega)
     |9,_=>exact congrArg (Value.int .i64) (by have:=HKJ.out;omega)
     |10,_=>exact congrArg (Value.int .i64) (by have:=HKJ.out;omega)):Arr (wr.setCells b (j*11) [.int .i64 kj,.int .i64 (kj+1),.int .i64 (kj+1+1),.int .i64 (kj+1+1+1),.int .i64 (kj+1+1+1+1),.int .i64 (kj+1+1+1+1+1),.int .i64 (kj+1+1+1+1+1+1),.int .i64 (kj+1+1+1+1+1+1+1),.int .i64 (kj+1+1+1+1+1+1+1+1),.int .i64 (kj+1+1+1+1+1+1+1+1+1),.int .i64 (kj+1+1+1+1+1+1+1+1+1+1)]) b (n*11) (upTo (markF k) f ((j+1)*11)))
   have F3:Hid (Fr (fun q=>q=b) w (wr.setCells b (j*11) [.int .i64 kj,.int .i64 (kj+1),.int .i64 (kj+1+1),.int .i64 (kj+1+1+1),.int .i64 (kj+1+1+1+1),.int .i64 (kj+1+1+1+1+1),.int .i64 (kj+1+1+1+1+1+1),.int .i64 (kj+1+1+1+1+1+1+1),.int .i64 (kj+1+1+1+1+1+1+1+1),.int .i64 (kj+1+1+1+1+1+1+1+1+1),.int .i64 (kj+1+1+1+1+1+1+1+1+1+1)])):=((((((((((F2.out.set (.inl rfl) _ _).set (.inl rfl) _ _).set (.inl rfl) _ _).set (.inl rfl) _ _).set (.inl rfl) _ _).set (.inl rfl) _ _).set (.inl rfl) _ _).set (.inl rfl) _ _).set (.inl rfl) _ _).set (.inl rfl) _ _).set (.inl rfl) _ _;go_wp2;go_roundw
   case rel=>exact⟨j+1,by omega,congrArg (Value.int .i64) (by have:=HKJ.out;omega),by go_num,F3.out,A3.out⟩
   case measure=>simp[intOf];omega
  ·obtain rfl:j=n:=by omega
   have hlt':¬(j:Int)<(j:Int):=by omega
   go_wp2;go_ret;exact⟨ret_int HKJ.out.symm,F2.out,A2.out.filled⟩
theorem markStmtS_nil(ao:Option Addr)(cap:Nat)(k:Int)(w:World):
 Calls Tryz.prog 75 #[.slice ao 0 cap,.int .i64 k] w fun e w'=>e=.returned (.int .i64 k)/\w'=w:=by
 go_enter Tryz.func75,Tryz.ntmps75;go_wp2;refine wp_loop_rounds 1 ?_;rw[rounds_succ];go_wp2;go_ret;exact⟨rfl,rfl⟩
theorem heldStmtS_at(b n cap:Nat)(k:Int)(w:World)(ln:n<=1048576)(k0:0<=k)(k1:k<=1125899906842624)(hA:Arr w b (n*11) (markF k)):
 Calls Tryz.prog 78 #[.slice (some ⟨b,0,none⟩) n cap,.int .i64 k] w fun e w'=>e=.returned (.int .i64 (k+11*(n:Int)))/\w'=w:=by
 have HA:Hid (Arr w b (n*11) (markF k)):=hA;have lb:=hA.lt;clear hA;go_enter Tryz.func78,Tryz.ntmps78;go_wp2;go_loopw [1,5](fun kv iv wr=>∃j:Nat,j<=n/\kv=.int .i64 (k+11*(j:Int))/\iv=.int .i64 (j:Int)/\wr=w)(fun _ iv _=>n-(intOf iv).toNat)
 case atStart=>exact⟨0,Nat.zero_le _,by simp,rfl,rfl⟩
 case round=>
  obtain⟨j,hj,hkv,hiv,hw⟩:=hrel;obtain⟨kj,hkj⟩:∃y:Int,k+11*(j:Int)=y:=⟨_,rfl⟩
  rw[hkj]at hkv;subst hkv hiv hw;have HKJ:Hid (k+11*(j:Int)=kj):=hkj;have kb0:0<=kj:=by omega
  have kb1:kj<=2251799813685248:=by omega
  clear hkj;by_cases hlt:j<n
  ·have hlt':(j:Int)<(n:Int):=by omega
   have c0:wr.cell? ⟨b,j*11,none⟩=some (.int .i64 (kj)):=(HA.out.cell (i:=j*11) (by omega)).trans (congrArg (fun x=>some (Value.int .i64 x)) (by have:=HKJ.out;omega));have c1:wr.cell? ⟨b,j*11+1,none⟩=some (.int .i64 (kj+1)):=(HA.out.cell (i:=j*11+1) (by omega)).trans (congrArg (fun x=>some (Value.int .i64 x)) (by have:=HKJ.out;omega));have c2:wr.cell? ⟨b,j*11+2,none⟩=some (.int .i64 (kj+1+1)):=(HA.out.cell (i:=j*11+2) (by omega)).trans (congrArg (fun x=>some (Value.int .i64 x)) (by have:=HKJ.out;omega));have c3:wr.cell? ⟨b,j*11+3,none⟩=some (.int .i64 (kj+1+1+1)):=(HA.out.cell (i:=j*11+3) (by omega)).trans (congrArg (fun x=>some (Value.int .i64 x)) (by have:=HKJ.out;omega));have c4:wr.cell? ⟨b,j*11+4,none⟩=some (.int .i64 (kj+1+1+1+1)):=(HA.out.cell (i:=j*11+4) (by omega)).trans (congrArg (fun x=>some (Value.int .i64 x)) (by have:=HKJ.out;omega));have c5:wr.cell? ⟨b,j*11+5,none⟩=some (.int .i64 (kj+1+1+1+1+1)):=(HA.out.cell (i:=j*11+5) (by omega)).trans (congrArg (fun x=>some (Value.int .i64 x)) (by have:=HKJ.out;omega));have c6:wr.cell? ⟨b,j*11+6,none⟩=some (.int .i64 (kj+1+1+1+1+1+1)):=(HA.out.cell (i:=j*11+6) (by omega)).trans (congrArg (fun x=>some (Value.int .i64 x)) (by have:=HKJ.out;omega));have c7:wr.cell? ⟨b,j*11+7,none⟩=some (.int .i64 (kj+1+1+1+1+1+1+1)):=(HA.out.cell (i:=j*11+7) (by omega)).trans (congrArg (fun x=>some (Value.int .i64 x)) (by have:=HKJ.out;omega));have c8:wr.cell? ⟨b,j*11+8,none⟩=some (.int .i64 (kj+1+1+1+1+1+1+1+1)):=(HA.out.cell (i:=j*11+8) (by omega)).trans (congrArg (fun x=>some (Value.int .i64 x)) (by have:=HKJ.out;omega));have c9:wr.cell? ⟨b,j*11+9,none⟩=some (.int .i64 (kj+1+1+1+1+1+1+1+1+1)):=(HA.out.cell (i:=j*11+9) (by omega)).trans (congrArg (fun x=>some (Value.int .i64 x)) (by have:=HKJ.out;omega));have c10:wr.cell? ⟨b,j*11+10,none⟩=some (.int .i64 (kj+1+1+1+1+1+1+1+1+1+1)):=(HA.out.cell (i:=j*11+10) (by omega)).trans (congrArg (fun x=>some (Value.int .i64 x)) (by have:=HKJ.out;omega));go_wp2;go_roundw
   case rel=>exact⟨j+1,by omega,congrArg (Value.int .i64) (by have:=HKJ.out;omega),by go_num,by first|rfl|trivial⟩
   case measure=>simp[intOf];omega
  ·obtain rfl:j=n:=by omega
   have hlt':¬(j:Int)<(j:Int):=by omega
   go_wp2;go_ret;exact⟨ret_int HKJ.out.symm,rfl⟩
theorem heldStmtS_nil(ao:Option Addr)(cap:Nat)(k:Int)(w:World):
 Calls Tryz.prog 78 #[.slice ao 0 cap,.int .i64 k] w fun e w'=>e=.returned (.int .i64 k)/\w'=w:=by
 go_enter Tryz.func78,Tryz.ntmps78;go_wp2;refine wp_loop_rounds 1 ?_;rw[rounds_succ];go_wp2;go_ret;exact⟨rfl,rfl⟩
theorem eqStmtS_nil(ao ao':Option Addr)(cap cap':Nat)(w:World):
 Calls Tryz.prog 114 #[.slice ao 0 cap,.slice ao' 0 cap'] w fun e w'=>e=.returned (.bool true)/\Below w.heap.size w w':=by
 go_enter Tryz.func114,Tryz.ntmps114;go_wp2;refine wp_loop_rounds 1 ?_;rw[rounds_succ];go_wp2;go_ret;exact⟨rfl,Below.refl _ _⟩
def mV(k:Int)(e:Nat):VV:=⟨k+6*e,(k+6*e+1)%3==0,k+6*e+1+1,k+6*e+1+1+1,k+6*e+1+1+1+1,k+6*e+1+1+1+1+1⟩
theorem markVals_at(b n cap:Nat)(f:Nat->Value)(k:Int)(w:World)(hn:n<=1048576)(k0:0<=k)(k1:k<=1125899906842624)(h:Arr w b (n*6) f):
 Calls Tryz.prog 74 #[.slice (some ⟨b,0,none⟩) n cap,.int .i64 k] w fun e w'=>e=.returned (.int .i64 (k+6*n))/\Fr (fun q=>n≠0/\q=b) w w'/\Arr w' b (n*6) (vF (mV k)):=by
 have HA:Hid (Arr w b (n*6) f):=h;clear h;go_enter Tryz.func74,Tryz.ntmps74;go_wp2;go_loopw [1,5](fun kv i wr=>∃q:Nat,q<=n/\i=.int .i64 q/\kv=.int .i64 (k+6*q)/\Fr (fun q=>n≠0/\q=b) w wr/\Arr wr b (n*6) (upTo (vF (mV k)) f (q*6)))(fun _ i _=>n-(intOf i).toNat)
 case atStart=>exact⟨0,Nat.zero_le _,rfl,by simp,Fr.refl _ _,HA.out.congr fun i _=>by rw[Nat.zero_mul];exact(upTo_zero _ _ _).symm⟩
 case round=>
  obtain⟨q,hq,rfl,rfl,hf,ha⟩:=hrel;by_cases hlt:q<n
  ·have hlt':(q:Int)<n:=by omega
   have g0:=ha.cell (i:=q*6) (by omega);have g1:=ha.cell (i:=q*6+1) (by omega);have g2:=ha.cell (i:=q*6+2) (by omega);have g3:=ha.cell (i:=q*6+3) (by omega);have g4:=ha.cell (i:=q*6+4) (by omega);have g5:=ha.cell (i:=q*6+5) (by omega);have gf:=ha.free;have hb:=ha.lt;have HF:Hid (Fr (fun q=>n≠0/\q=b) w wr):=hf;have HR:Hid (Arr wr b (n*6) (upTo (vF (mV k)) f (q*6))):=ha;clear hf ha;go_wp2;go_roundw
   case rel=>
    have hs:n≠0/\b=b:=⟨by omega,rfl⟩
    refine⟨q+1,by omega,by go_num,by simp;omega,(((((HF.out.set (.inl hs) _ _).set (.inl hs) _ _).set (.inl hs) _ _).set (.inl hs) _ _).set (.inl hs) _ _).set (.inl hs) _ _,?_⟩;have:=HR.out.fill (vs:=[.int .i64 (mV k q).k,.bool (mV k q).s,.int .i64 (mV k q).m,.int .i64 (mV k q).h,.int .i64 (mV k q).lo,.int .i64 (mV k q).hi]) (by simp;omega) (fun j hj=>by
     have hj2:j=0∨j=1∨j=2∨j=3∨j=4∨j=5:=by simp at hj;omega
     rcases hj2 with rfl|rfl|rfl|rfl|rfl|rfl<;>rw[vF_at _ _ _ (by omega)]<;>rfl)
    rw[show(q+1)*6=q*6+6 by omega];simpa[World.setCells,mV]using this
   case measure=>simp[intOf];omega
  ·obtain rfl:q=n:=by omega
   have HF:Hid (Fr (fun x=>q≠0/\x=b) w wr):=hf;have HR:Hid (Arr wr b (q*6) (upTo (vF (mV k)) f (q*6))):=ha;clear hf ha;go_wp2;go_ret;exact⟨rfl,HF.out,HR.out.filled⟩
theorem heldVals_at(b off n cap:Nat)(k:Int)(w:World)(hn:n<=1048576)(k0:0<=k)(k1:k<=1125899906842624)(h:At w b off (n*6) (vF (mV k))):
 Calls Tryz.prog 77 #[.slice (some ⟨b,off,none⟩) n cap,.int .i64 k] w fun e w'=>e=.returned (.int .i64 (k+6*n))/\w'=w:=by
 have HA:Hid (At w b off (n*6) (vF (mV k))):=h;have hb:=h.lt;clear h;go_enter Tryz.func77,Tryz.ntmps77;go_wp2;go_loopw [1,5](fun kv i wr=>∃q:Nat,q<=n/\i=.int .i64 q/\kv=.int .i64 (k+6*q)/\wr=w)(fun _ i _=>n-(intOf i).toNat)
 case atStart=>exact⟨0,Nat.zero_le _,rfl,by simp,rfl⟩
 case round=>
  obtain⟨q,hq,rfl,rfl,rfl⟩:=hrel;by_cases hlt:q<n
  ·have hlt':(q:Int)<n:=by omega
   have cl:∀j,j<6->wr.cell? ⟨b,off+(q*6+j),none⟩=some (vC (mV k q) j):=fun j hj=>by rw[HA.out.cell (i:=q*6+j) (by omega),vF_at _ _ _ hj]
   have g0:wr.cell? ⟨b,off+q*6,none⟩=some (.int .i64 (k+6*q)):=cl 0 (by omega);have g1:wr.cell? ⟨b,off+q*6+1,none⟩=some (.bool ((k+6*q+1)%3==0)):=cl 1 (by omega);have g2:wr.cell? ⟨b,off+q*6+2,none⟩=some (.int .i64 (k+6*q+1+1)):=cl 2 (by omega);have g3:wr.cell? ⟨b,off+q*6+3,none⟩=some (.int .i64 (k+6*q+1+1+1)):=cl 3 (by omega);have g4:wr.cell? ⟨b,off+q*6+4,none⟩=some (.int .i64 (k+6*q+1+1+1+1)):=cl 4 (by omega);have g5:wr.cell? ⟨b,off+q*6+5,none⟩=some (.int .i64 (k+6*q+1+1+1+1+1)):=cl 5 (by omega);clear cl;go_wp2;go_roundw
   case rel=>exact⟨q+1,by omega,by go_num,by simp;omega,by first|rfl|trivial⟩
   case measure=>simp[intOf];omega
  ·obtain rfl:q=n:=by omega
   go_wp2;go_ret;exact⟨rfl,rfl⟩
theorem markVals_nil(ao:Option Addr)(cap:Nat)(k:Int)(w:World):
 Calls Tryz.prog 74 #[.slice ao 0 cap,.int .i64 k] w fun e w'=>e=.returned (.int .i64 k)/\w'=w:=by
 go_enter Tryz.func74,Tryz.ntmps74;go_wp2;go_loopw [1,5](fun kv i wr=>i=.int .i64 0/\kv=.int .i64 k/\wr=w)(fun _ _ _=>0)
 case atStart=>exact⟨rfl,rfl,rfl⟩
 case round=>
  obtain⟨rfl,rfl,rfl⟩:=hrel;go_wp2;go_ret;exact⟨rfl,rfl⟩
theorem heldVals_nil(ao:Option Addr)(cap:Nat)(k:Int)(w:World):
 Calls Tryz.prog 77 #[.slice ao 0 cap,.int .i64 k] w fun e w'=>e=.returned (.int .i64 k)/\w'=w:=by
 go_enter Tryz.func77,Tryz.ntmps77;go_wp2;go_loopw [1,5](fun kv i wr=>i=.int .i64 0/\kv=.int .i64 k/\wr=w)(fun _ _ _=>0)
 case atStart=>exact⟨rfl,rfl,rfl⟩
 case round=>
  obtain⟨rfl,rfl,rfl⟩:=hrel;go_wp2;go_ret;exact⟨rfl,rfl⟩
def mH(k:Int)(e:Nat):HS:=⟨k+3*e,(k+3*e+1)%3==0,(k+3*e+1+1)%3==0⟩
theorem markHS_at(b n cap:Nat)(f:Nat->Value)(k:Int)(w:World)(hn:n<=1048576)(k0:0<=k)(k1:k<=1125899906842624)(h:Arr w b (n*3) f):
 Calls Tryz.prog 73 #[.slice (some ⟨b,0,none⟩) n cap,.int .i64 k] w fun e w'=>e=.returned (.int .i64 (k+3*n))/\Fr (fun q=>n≠0/\q=b) w w'/\Arr w' b (n*3) (hsF (mH k)):=by
 have HA:Hid (Arr w b (n*3) f):=h;clear h;go_enter Tryz.func73,Tryz.ntmps73;go_wp2;go_loopw [1,5](fun kv i wr=>∃q:Nat,q<=n/\i=.int .i64 q/\kv=.int .i64 (k+3*q)/\Fr (fun q=>n≠0/\q=b) w wr/\Arr wr b (n*3) (upTo (hsF (mH k)) f (q*3)))(fun _ i _=>n-(intOf i).toNat)
 case atStart=>exact⟨0,Nat.zero_le _,rfl,by simp,Fr.refl _ _,HA.out.congr fun i _=>by rw[Nat.zero_mul];exact(upTo_zero _ _ _).symm⟩
 case round=>
  obtain⟨q,hq,rfl,rfl,hf,ha⟩:=hrel;by_cases hlt:q<n
  ·have hlt':(q:Int)<n:=by omega
   have g0:=ha.cell (i:=q*3) (by omega);have g1:=ha.cell (i:=q*3+1) (by omega);have g2:=ha.cell (i:=q*3+2) (by omega);have gf:=ha.free;have hb:=ha.lt;have HF:Hid (Fr (fun q=>n≠0/\q=b) w wr):=hf;have HR:Hid (Arr wr b (n*3) (upTo (hsF (mH k)) f (q*3))):=ha;clear hf ha;go_wp2;go_roundw
   case rel=>
    have hs:n≠0/\b=b:=⟨by omega,rfl⟩
    refine⟨q+1,by omega,by go_num,by simp;omega,((HF.out.set (.inl hs) _ _).set (.inl hs) _ _).set (.inl hs) _ _,?_⟩;have:=HR.out.fill (vs:=[.int .i64 (mH k q).size,.bool (mH k q).s,.bool (mH k q).w]) (by simp;omega) (fun j hj=>by
     have hj2:j=0∨j=1∨j=2:=by simp at hj;omega
     rcases hj2 with rfl|rfl|rfl<;>rw[hsF_at _ _ _ (by omega)]<;>rfl)
    rw[show(q+1)*3=q*3+3 by omega];simpa[World.setCells,mH]using this
   case measure=>simp[intOf];omega
  ·obtain rfl:q=n:=by omega
   have HF:Hid (Fr (fun x=>q≠0/\x=b) w wr):=hf;have HR:Hid (Arr wr b (q*3) (upTo (hsF (mH k)) f (q*3))):=ha;clear hf ha;go_wp2;go_ret;exact⟨rfl,HF.out,HR.out.filled⟩
theorem heldHS_at(b off n cap:Nat)(k:Int)(w:World)(hn:n<=1048576)(k0:0<=k)(k1:k<=1125899906842624)(h:At w b off (n*3) (hsF (mH k))):
 Calls Tryz.prog 76 #[.slice (some ⟨b,off,none⟩) n cap,.int .i64 k] w fun e w'=>e=.returned (.int .i64 (k+3*n))/\w'=w:=by
 have HA:Hid (At w b off (n*3) (hsF (mH k))):=h;have hb:=h.lt;clear h;go_enter Tryz.func76,Tryz.ntmps76;go_wp2;go_loopw [1,5](fun kv i wr=>∃q:Nat,q<=n/\i=.int .i64 q/\kv=.int .i64 (k+3*q)/\wr=w)(fun _ i _=>n-(intOf i).toNat)
 case atStart=>exact⟨0,Nat.zero_le _,rfl,by simp,rfl⟩
 case round=>
  obtain⟨q,hq,rfl,rfl,rfl⟩:=hrel;by_cases hlt:q<n
  ·have hlt':(q:Int)<n:=by omega
   have cl:∀j,j<3->wr.cell? ⟨b,off+(q*3+j),none⟩=some (hsC (mH k q) j):=fun j hj=>by rw[HA.out.cell (i:=q*3+j) (by omega),hsF_at _ _ _ hj]
   have g0:wr.cell? ⟨b,off+q*3,none⟩=some (.int .i64 (k+3*q)):=cl 0 (by omega);have g1:wr.cell? ⟨b,off+q*3+1,none⟩=some (.bool ((k+3*q+1)%3==0)):=cl 1 (by omega);have g2:wr.cell? ⟨b,off+q*3+2,none⟩=some (.bool ((k+3*q+1+1)%3==0)):=cl 2 (by omega);clear cl;go_wp2;go_roundw
   case rel=>exact⟨q+1,by omega,by go_num,by simp;omega,by first|rfl|trivial⟩
   case measure=>simp[intOf];omega
  ·obtain rfl:q=n:=by omega
   go_wp2;go_ret;exact⟨rfl,rfl⟩
theorem markHS_nil(ao:Option Addr)(cap:Nat)(k:Int)(w:World):
 Calls Tryz.prog 73 #[.slice ao 0 cap,.int .i64 k] w fun e w'=>e=.returned (.int .i64 k)/\w'=w:=by
 go_enter Tryz.func73,Tryz.ntmps73;go_wp2;go_loopw [1,5](fun kv i wr=>i=.int .i64 0/\kv=.int .i64 k/\wr=w)(fun _ _ _=>0)
 case atStart=>exact⟨rfl,rfl,rfl⟩
 case round=>
  obtain⟨rfl,rfl,rfl⟩:=hrel;go_wp2;go_ret;exact⟨rfl,rfl⟩
theorem heldHS_nil(ao:Option Addr)(cap:Nat)(k:Int)(w:World):
 Calls Tryz.prog 76 #[.slice ao 0 cap,.int .i64 k] w fun e w'=>e=.returned (.int .i64 k)/\w'=w:=by
 go_enter Tryz.func76,Tryz.ntmps76;go_wp2;go_loopw [1,5](fun kv i wr=>i=.int .i64 0/\kv=.int .i64 k/\wr=w)(fun _ _ _=>0)
 case atStart=>exact⟨rfl,rfl,rfl⟩
 case round=>
  obtain⟨rfl,rfl,rfl⟩:=hrel;go_wp2;go_ret;exact⟨rfl,rfl⟩
end Go.Proofs.YtblfmpgdhpbffaaGreatDoor
