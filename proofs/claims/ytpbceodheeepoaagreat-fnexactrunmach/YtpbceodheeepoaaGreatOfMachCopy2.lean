import Derived.Test.YtpbceodheeepoaaGreatRows
import Derived.Test.YtpbceodheeepoaaGreatOfCoreF
import Derived.WalkLawsBesides
import Derived.Deep.QuietTactic
import Derived.BigQuiet
import Derived.Deep.RegionWith
import Derived.BigRegion
set_option maxHeartbeats 1000000
namespace Go.Proofs.YtpbceodheeepoaaGreat
open Go.RowKit
theorem ret_true:Ending.returned (.bool true)=.returned (.bool true):=rfl
theorem info_u64:(Tryz.prog.info? 67).map (fun i=>(i.zero,i.size,i.bytes))=some (some (.int .u64 0),1,8):=by kernel_rfl
theorem toUint64S_at(b off len cap:Nat)(R:Nat->Int)(w:World)(hlen:len<=1048576)(hat:At w b off len (numF .u64 R)):
 Calls Tryz.prog 44 #[.slice (some ⟨b,off,none⟩) len cap] w fun e w'=>e=.returned (.slice (some ⟨w.heap.size,0,none⟩) len len)/\Below w.heap.size w w'/\Arr w' w.heap.size len (numF .u64 R):=by
 obtain⟨i0,hi,hz0,hz1,hz2⟩:=info_parts info_u64;have hb:=hat.lt;have HA:Hid (At w b off len (numF .u64 R)):=hat;clear hat;go_enter Tryz.func44,Tryz.ntmps44;go_wp2_with(first|(at_make;refine wpList_make_full _ rfl _ _ 24 rfl w.heap.size 67 i0 _ 1 Tryz.underlying24 hi hz0 hz1 .i64 .i64 _ _ len rfl rfl ?c1 ?c2 ?c3 ?c4 ?c5 ?_)|go_in)
 case c1=>rfl
 case c2=>rfl
 case c3=>rw[hz2];omega
 case c4=>unfold maxLen;omega
 case c5=>exact Nat.le_refl _
 ·intro w1 hown hgrow
  have hbel:Below w.heap.size w w1:=(Below.refl _ _).grown hgrow (Nat.le_refl _) (by intro k hk;cases hk);have harr:Arr w1 w.heap.size len (upTo (numF .u64 R) (fun _=>.int .u64 0) 0):=by
   have:=Arr.made (z:=upTo (numF .u64 R) (fun _=>.int .u64 0) 0) hown fun i hi=>by
    rw[made_get _ len i (by omega),upTo_zero];simp[Nat.mod_one]
   rwa [Nat.mul_one]at this
  clear hown hgrow hi hz0 hz1 hz2;go_wp2;go_loopw [4](fun i wr=>∃k:Nat,k<=len/\i=.int .i64 k/\Below w.heap.size w wr/\Arr wr w.heap.size len (upTo (numF .u64 R) (fun _=>.int .u64 0) k))(fun i _=>len-(intOf i).toNat)
  case atStart=>exact⟨0,Nat.zero_le _,rfl,hbel,harr⟩
  case round=>
   clear harr hbel;obtain⟨k,hk,rfl,hbr,har⟩:=hrel;have HAR:Hid (Arr wr w.heap.size len (upTo (numF .u64 R) (fun _=>.int .u64 0) k)):=har;clear har;by_cases hlt:k<len
   ·have g0:wr.cell? ⟨b,off+k,none⟩=some (.int .u64 (R k)):=(hbr.cell (p:=⟨b,off+k,none⟩) hb).trans (HA.out.cell (i:=k) hlt)
    have f2:=HAR.out.free;have c0:=HAR.out.cell (i:=k) hlt;go_wp2;go_roundw
    case rel=>exact⟨k+1,by omega,by go_num,below_setCells (Nat.le_refl _) [.int .u64 (R k)] k hbr,HAR.out.fill (vs:=[.int .u64 (R k)]) (by simp;omega) (fun j hj=>by simp at hj;subst hj;rfl)⟩
    case measure=>simp[intOf];omega
   ·go_wp2
    go_ret;obtain rfl:k=len:=by omega
    exact⟨rfl,hbr,HAR.out.filled⟩
theorem toUint64S_nil(ao:Option Addr)(cap:Nat)(R:Nat->Int)(w:World):
 Calls Tryz.prog 44 #[.slice ao 0 cap] w fun e w'=>e=.returned (.slice (some ⟨w.heap.size,0,none⟩) 0 0)/\Below w.heap.size w w'/\Arr w' w.heap.size 0 (numF .u64 R):=by
 obtain⟨i0,hi,hz0,hz1,hz2⟩:=info_parts info_u64;go_enter Tryz.func44,Tryz.ntmps44;go_wp2_with(first|(at_make;refine wpList_make_full _ rfl _ _ 24 rfl w.heap.size 67 i0 _ 1 Tryz.underlying24 hi hz0 hz1 .i64 .i64 _ _ 0 rfl rfl ?c1 ?c2 ?c3 ?c4 ?c5 ?_)|go_in)
 case c1=>rfl
 case c2=>rfl
 case c3=>rw[hz2];omega
 case c4=>unfold maxLen;omega
 case c5=>exact Nat.le_refl _
 ·intro w1 hown hgrow
  have hbel:Below w.heap.size w w1:=(Below.refl _ _).grown hgrow (Nat.le_refl _) (by intro k hk;cases hk);have harr:Arr w1 w.heap.size (0*1) (numF .u64 R):=Arr.made hown fun i hi=>by omega
  have HX:Hid (Below w.heap.size w w1/\Arr w1 w.heap.size (0*1) (numF .u64 R)):=⟨hbel,harr⟩
  clear hown hgrow hi hz0 hz1 hz2 hbel harr;go_wp2;refine wp_loop_rounds 1 ?_;rw[rounds_succ];go_wp2;go_ret;exact⟨rfl,HX.out.1,HX.out.2⟩
theorem toUint64S_in(ao:Option Addr)(len cap:Nat)(R:Nat->Int)(w:World)(hlen:len<=1048576)(h:InRow w ao len (numF .u64 R)):
 Calls Tryz.prog 44 #[.slice ao len cap] w fun e w'=>e=.returned (.slice (some ⟨w.heap.size,0,none⟩) len len)/\Below w.heap.size w w'/\Arr w' w.heap.size len (numF .u64 R):=by
 rcases h with rfl|⟨b,off,rfl,h⟩
 ·exact toUint64S_nil ao cap R w
 ·exact toUint64S_at b off len cap R w hlen h
theorem eqUint64S_same(b off len cap b' off' cap':Nat)(R:Nat->Int)(w:World)(hlen:len<=1048576)(hat:At w b off len (numF .u64 R))(hat':At w b' off' len (numF .u64 R)):
 Calls Tryz.prog 47 #[.slice (some ⟨b,off,none⟩) len cap,.slice (some ⟨b',off',none⟩) len cap'] w fun e w'=>e=.returned (.bool true)/\Below w.heap.size w w':=by
 have hb:=hat.lt;have hb':=hat'.lt;have HA:Hid (At w b off len (numF .u64 R)):=hat;have HA':Hid (At w b' off' len (numF .u64 R)):=hat';clear hat hat';go_enter Tryz.func47,Tryz.ntmps47;go_wp2;go_loopw [5](fun i wr=>∃k:Nat,k<=len/\i=.int .i64 k/\Below w.heap.size w wr)(fun i _=>len-(intOf i).toNat)
 case atStart=>exact⟨0,Nat.zero_le _,rfl,Below.refl _ _⟩
 case round=>
  obtain⟨k,hk,rfl,hbr⟩:=hrel;by_cases hlt:k<len
  ·have g0:wr.cell? ⟨b,off+k,none⟩=some (.int .u64 (R k)):=(hbr.cell (p:=⟨b,off+k,none⟩) hb).trans (HA.out.cell (i:=k) hlt)
   have q0:wr.cell? ⟨b',off'+k,none⟩=some (.int .u64 (R k)):=(hbr.cell (p:=⟨b',off'+k,none⟩) hb').trans (HA'.out.cell (i:=k) hlt);have hlt':(k:Int)<(len:Int):=by omega
   go_wp2_with fail;go_quiet(fail);go_wp2;go_roundw
   case rel=>exact⟨k+1,by omega,by go_num,below_drewN hbr _⟩
   case measure=>simp[intOf];omega
  ·go_wp2
   go_ret;exact⟨rfl,hbr⟩
theorem szUint64S_ok(ao:Option Addr)(len cap:Nat)(left:Int)(w:World)(hlo:(len:Int)<=left)(hhi:left<=1048576):
 Calls Tryz.prog 40 #[.slice ao len cap,.int .i64 left] w fun e w'=>e=.returned (.int .i64 (left-len))/\w'=w:=by
 go_enter Tryz.func40,Tryz.ntmps40;go_wp2;go_ret;exact⟨rfl,rfl⟩
theorem szUint64S_no(ao:Option Addr)(len cap:Nat)(left:Int)(w:World)(h0:0<=left)(hlo:left<(len:Int))(hm:len<=9223372036854775807):
 Calls Tryz.prog 40 #[.slice ao len cap,.int .i64 left] w fun e w'=>e=.returned (.int .i64 (-1))/\w'=w:=by
 go_enter Tryz.func40,Tryz.ntmps40;go_wp2;go_ret;exact⟨rfl,rfl⟩
theorem info_u8:(Tryz.prog.info? 5).map (fun i=>(i.zero,i.size,i.bytes))=some (some (.int .u8 0),1,1):=by kernel_rfl
theorem toByteS_at(b off len cap:Nat)(R:Nat->Int)(w:World)(hlen:len<=1048576)(hat:At w b off len (numF .u8 R)):
 Calls Tryz.prog 129 #[.slice (some ⟨b,off,none⟩) len cap] w fun e w'=>e=.returned (.slice (some ⟨w.heap.size,0,none⟩) len len)/\Below w.heap.size w w'/\Arr w' w.heap.size len (numF .u8 R):=by
 obtain⟨i0,hi,hz0,hz1,hz2⟩:=info_parts info_u8;have hb:=hat.lt;have HA:Hid (At w b off len (numF .u8 R)):=hat;clear hat;go_enter Tryz.func129,Tryz.ntmps129;go_wp2_with(first|(at_make;refine wpList_make_full _ rfl _ _ 22 rfl w.heap.size 5 i0 _ 1 Tryz.underlying22 hi hz0 hz1 .i64 .i64 _ _ len rfl rfl ?c1 ?c2 ?c3 ?c4 ?c5 ?_)|go_in)
 case c1=>rfl
 case c2=>rfl
 case c3=>rw[hz2];omega
 case c4=>unfold maxLen;omega
 case c5=>exact Nat.le_refl _
 ·intro w1 hown hgrow
  have hbel:Below w.heap.size w w1:=(Below.refl _ _).grown hgrow (Nat.le_refl _) (by intro k hk;cases hk);have harr:Arr w1 w.heap.size len (upTo (numF .u8 R) (fun _=>.int .u8 0) 0):=by
   have:=Arr.made (z:=upTo (numF .u8 R) (fun _=>.int .u8 0) 0) hown fun i hi=>by
    rw[made_get _ len i (by omega),upTo_zero];simp[Nat.mod_one]
   rwa [Nat.mul_one]at this
  clear hown hgrow hi hz0 hz1 hz2;go_wp2;go_loopw [4](fun i wr=>∃k:Nat,k<=len/\i=.int .i64 k/\Below w.heap.size w wr/\Arr wr w.heap.size len (upTo (numF .u8 R) (fun _=>.int .u8 0) k))(fun i _=>len-(intOf i).toNat)
  case atStart=>exact⟨0,Nat.zero_le _,rfl,hbel,harr⟩
  case round=>
   clear harr hbel;obtain⟨k,hk,rfl,hbr,har⟩:=hrel;have HAR:Hid (Arr wr w.heap.size len (upTo (numF .u8 R) (fun _=>.int .u8 0) k)):=har;clear har;by_cases hlt:k<len
   ·have g0:wr.cell? ⟨b,off+k,none⟩=some (.int .u8 (R k)):=(hbr.cell (p:=⟨b,off+k,none⟩) hb).trans (HA.out.cell (i:=k) hlt)
    have f2:=HAR.out.free;have c0:=HAR.out.cell (i:=k) hlt;go_wp2;go_roundw
    case rel=>exact⟨k+1,by omega,by go_num,below_setCells (Nat.le_refl _) [.int .u8 (R k)] k hbr,HAR.out.fill (vs:=[.int .u8 (R k)]) (by simp;omega) (fun j hj=>by simp at hj;subst hj;rfl)⟩
    case measure=>simp[intOf];omega
   ·go_wp2
    go_ret;obtain rfl:k=len:=by omega
    exact⟨rfl,hbr,HAR.out.filled⟩
theorem toByteS_nil(ao:Option Addr)(cap:Nat)(R:Nat->Int)(w:World):
 Calls Tryz.prog 129 #[.slice ao 0 cap] w fun e w'=>e=.returned (.slice (some ⟨w.heap.size,0,none⟩) 0 0)/\Below w.heap.size w w'/\Arr w' w.heap.size 0 (numF .u8 R):=by
 obtain⟨i0,hi,hz0,hz1,hz2⟩:=info_parts info_u8;go_enter Tryz.func129,Tryz.ntmps129;go_wp2_with(first|(at_make;refine wpList_make_full _ rfl _ _ 22 rfl w.heap.size 5 i0 _ 1 Tryz.underlying22 hi hz0 hz1 .i64 .i64 _ _ 0 rfl rfl ?c1 ?c2 ?c3 ?c4 ?c5 ?_)|go_in)
 case c1=>rfl
 case c2=>rfl
 case c3=>rw[hz2];omega
 case c4=>unfold maxLen;omega
 case c5=>exact Nat.le_refl _
 ·intro w1 hown hgrow
  have hbel:Below w.heap.size w w1:=(Below.refl _ _).grown hgrow (Nat.le_refl _) (by intro k hk;cases hk);have harr:Arr w1 w.heap.size (0*1) (numF .u8 R):=Arr.made hown fun i hi=>by omega
  have HX:Hid (Below w.heap.size w w1/\Arr w1 w.heap.size (0*1) (numF .u8 R)):=⟨hbel,harr⟩
  clear hown hgrow hi hz0 hz1 hz2 hbel harr;go_wp2;refine wp_loop_rounds 1 ?_;rw[rounds_succ];go_wp2;go_ret;exact⟨rfl,HX.out.1,HX.out.2⟩
theorem toByteS_in(ao:Option Addr)(len cap:Nat)(R:Nat->Int)(w:World)(hlen:len<=1048576)(h:InRow w ao len (numF .u8 R)):
 Calls Tryz.prog 129 #[.slice ao len cap] w fun e w'=>e=.returned (.slice (some ⟨w.heap.size,0,none⟩) len len)/\Below w.heap.size w w'/\Arr w' w.heap.size len (numF .u8 R):=by
 rcases h with rfl|⟨b,off,rfl,h⟩
 ·exact toByteS_nil ao cap R w
 ·exact toByteS_at b off len cap R w hlen h
theorem eqByteS_same(b off len cap b' off' cap':Nat)(R:Nat->Int)(w:World)(hlen:len<=1048576)(hat:At w b off len (numF .u8 R))(hat':At w b' off' len (numF .u8 R)):
 Calls Tryz.prog 130 #[.slice (some ⟨b,off,none⟩) len cap,.slice (some ⟨b',off',none⟩) len cap'] w fun e w'=>e=.returned (.bool true)/\Below w.heap.size w w':=by
 have hb:=hat.lt;have hb':=hat'.lt;have HA:Hid (At w b off len (numF .u8 R)):=hat;have HA':Hid (At w b' off' len (numF .u8 R)):=hat';clear hat hat';go_enter Tryz.func130,Tryz.ntmps130;go_wp2;go_loopw [5](fun i wr=>∃k:Nat,k<=len/\i=.int .i64 k/\Below w.heap.size w wr)(fun i _=>len-(intOf i).toNat)
 case atStart=>exact⟨0,Nat.zero_le _,rfl,Below.refl _ _⟩
 case round=>
  obtain⟨k,hk,rfl,hbr⟩:=hrel;by_cases hlt:k<len
  ·have g0:wr.cell? ⟨b,off+k,none⟩=some (.int .u8 (R k)):=(hbr.cell (p:=⟨b,off+k,none⟩) hb).trans (HA.out.cell (i:=k) hlt)
   have q0:wr.cell? ⟨b',off'+k,none⟩=some (.int .u8 (R k)):=(hbr.cell (p:=⟨b',off'+k,none⟩) hb').trans (HA'.out.cell (i:=k) hlt);have hlt':(k:Int)<(len:Int):=by omega
   go_wp2_with fail;go_quiet(fail);go_wp2;go_roundw
   case rel=>exact⟨k+1,by omega,by go_num,below_drewN hbr _⟩
   case measure=>simp[intOf];omega
  ·go_wp2
   go_ret;exact⟨rfl,hbr⟩
theorem szByteS_ok(ao:Option Addr)(len cap:Nat)(left:Int)(w:World)(hlo:(len:Int)<=left)(hhi:left<=1048576):
 Calls Tryz.prog 128 #[.slice ao len cap,.int .i64 left] w fun e w'=>e=.returned (.int .i64 (left-len))/\w'=w:=by
 go_enter Tryz.func128,Tryz.ntmps128;go_wp2;go_ret;exact⟨rfl,rfl⟩
theorem szByteS_no(ao:Option Addr)(len cap:Nat)(left:Int)(w:World)(h0:0<=left)(hlo:left<(len:Int))(hm:len<=9223372036854775807):
 Calls Tryz.prog 128 #[.slice ao len cap,.int .i64 left] w fun e w'=>e=.returned (.int .i64 (-1))/\w'=w:=by
 go_enter Tryz.func128,Tryz.ntmps128;go_wp2;go_ret;exact⟨rfl,rfl⟩
theorem info_obs:(Tryz.prog.info? 77).map (fun i=>(i.zero,i.size,i.bytes))=some (some (.agg #[.int .i64 0,.int .u64 0]),2,16):=by kernel_rfl
theorem zeroObs (i : Nat) : ((Value.agg #[.int .i64 0, .int .u64 0]).cells)[i % ((Value.agg #[.int .i64 0, .int .u64 0]).cells).size]! = obsZ i := by
 show (#[Value.int .i64 0, .int .u64 0] : Array Value)[i % 2]! = _;unfold obsZ;have : i % 2 < 2 := by omega
 match h : i % 2, this with
 | 0, _ => rfl
 | 1, _ => rfl
theorem toObs_any(k v:Int)(w:World):
 Calls Tryz.prog 79 #[.agg #[.int .i64 k,.int .u64 v]] w fun e w'=>e=.returned (.agg #[.int .i64 k,.int .u64 v])/\Below w.heap.size w w':=by
 go_enter Tryz.func79,Tryz.ntmps79;go_wp2;exact bodyPost_ret (v:=.agg #[.int .i64 k,.int .u64 v]) (by simp[results,Tryz.results79,go_sem]) rfl ⟨rfl,(((Below.refl _ _).alloc (Nat.le_refl _) _).alloc (by simp) _).alloc (by simp;omega) _⟩
theorem toObsS_at(b off len cap:Nat)(K V:Nat->Int)(w:World)(hlen:len<=1048576)(hat:At w b off (len*2) (obsF K V)):
 Calls Tryz.prog 46 #[.slice (some ⟨b,off,none⟩) len cap] w fun e w'=>e=.returned (.slice (some ⟨w.heap.size,0,none⟩) len len)/\Below w.heap.size w w'/\Arr w' w.heap.size (len*2) (obsF K V):=by
 obtain⟨i0,hi,hz0,hz1,hz2⟩:=info_parts info_obs;have hb:=hat.lt;have HA:Hid (At w b off (len*2) (obsF K V)):=hat;clear hat;go_enter Tryz.func46,Tryz.ntmps46;go_wp2_with(first|(at_make;refine wpList_make_full _ rfl _ _ 26 rfl w.heap.size 77 i0 _ 2 Tryz.underlying26 hi hz0 hz1 .i64 .i64 _ _ len rfl rfl ?c1 ?c2 ?c3 ?c4 ?c5 ?_)|go_in)
 case c1=>rfl
 case c2=>rfl
 case c3=>rw[hz2];omega
 case c4=>unfold maxLen;omega
 case c5=>exact Nat.le_refl _
 ·intro w1 hown hgrow
  have hbel:Below w.heap.size w w1:=(Below.refl _ _).grown hgrow (Nat.le_refl _) (by intro k hk;cases hk);have harr:Arr w1 w.heap.size (len*2) (upTo (obsF K V) obsZ (0*2)):=Arr.made hown fun i hi=>by
   rw[made_get _ _ _ hi,Nat.zero_mul,upTo_zero];exact congrArg some (zeroObs i)
  clear hown hgrow hi hz0 hz1 hz2;go_wp2;go_loopw [4](fun i wr=>∃k:Nat,k<=len/\i=.int .i64 k/\Below w.heap.size w wr/\Arr wr w.heap.size (len*2) (upTo (obsF K V) obsZ (k*2)))(fun i _=>len-(intOf i).toNat)
  case atStart=>exact⟨0,Nat.zero_le _,rfl,hbel,harr⟩
  case round=>
   clear harr hbel;obtain⟨k,hk,rfl,hbr,har⟩:=hrel;have HAR:Hid (Arr wr w.heap.size (len*2) (upTo (obsF K V) obsZ (k*2))):=har;have hzr:=har.lt;clear har;by_cases hlt:k<len
   ·have g0:=(hbr.cell (p:=⟨b,off+k*2,none⟩) hb).trans ((HA.out.cell (i:=k*2+0) (by omega)).trans (congrArg some (obsF_0 K V k)))
    have g1:=(hbr.cell (p:=⟨b,off+k*2+1,none⟩) hb).trans ((HA.out.cell (i:=k*2+1) (by omega)).trans (congrArg some (obsF_1 K V k)));go_wp2_with fail;refine(toObs_any _ _ _).mono ?_;rintro e w2⟨rfl,hb2⟩;clear g0 g1;have A2:=HAR.out.below hb2 hzr;have f2:=A2.free;have c0:=A2.cell (i:=k*2) (by omega);have c1:=A2.cell (i:=k*2+1) (by omega);have HR:Hid (Arr w2 w.heap.size (len*2) (upTo (obsF K V) obsZ (k*2))):=A2;clear A2;go_wp2;go_roundw
    case rel=>
     refine⟨k+1,by omega,by go_num,below_setCells (Nat.le_refl _) [.int .i64 (K k),.int .u64 (V k)] (k*2) (hbr.trans (hb2.mono hbr.size)),?_⟩;rw[show(k+1)*2=k*2+2 by omega];exact HR.out.fill (vs:=[.int .i64 (K k),.int .u64 (V k)]) (by simp;omega) (fun j hj=>by
      match j,hj with
      |0,_=>exact(obsF_0 K V k).symm
      |1,_=>exact(obsF_1 K V k).symm)
    case measure=>simp[intOf];omega
   ·go_wp2
    go_ret;obtain rfl:k=len:=by omega
    exact⟨rfl,hbr,HAR.out.filled⟩
theorem toObsS_nil(ao:Option Addr)(cap:Nat)(K V:Nat->Int)(w:World):
 Calls Tryz.prog 46 #[.slice ao 0 cap] w fun e w'=>e=.returned (.slice (some ⟨w.heap.size,0,none⟩) 0 0)/\Below w.heap.size w w'/\Arr w' w.heap.size (0*2) (obsF K V):=by
 obtain⟨i0,hi,hz0,hz1,hz2⟩:=info_parts info_obs;go_enter Tryz.func46,Tryz.ntmps46;go_wp2_with(first|(at_make;refine wpList_make_full _ rfl _ _ 26 rfl w.heap.size 77 i0 _ 2 Tryz.underlying26 hi hz0 hz1 .i64 .i64 _ _ 0 rfl rfl ?c1 ?c2 ?c3 ?c4 ?c5 ?_)|go_in)
 case c1=>rfl
 case c2=>rfl
 case c3=>rw[hz2];omega
 case c4=>unfold maxLen;omega
 case c5=>exact Nat.le_refl _
 ·intro w1 hown hgrow
  have hbel:Below w.heap.size w w1:=(Below.refl _ _).grown hgrow (Nat.le_refl _) (by intro k hk;cases hk);have harr:Arr w1 w.heap.size (0*2) (obsF K V):=Arr.made hown fun i hi=>by omega
  have HX:Hid (Below w.heap.size w w1/\Arr w1 w.heap.size (0*2) (obsF K V)):=⟨hbel,harr⟩
  clear hown hgrow hi hz0 hz1 hz2 hbel harr;go_wp2;refine wp_loop_rounds 1 ?_;rw[rounds_succ];go_wp2;go_ret;exact⟨rfl,HX.out.1,HX.out.2⟩
theorem toObsS_in(ao:Option Addr)(len cap:Nat)(K V:Nat->Int)(w:World)(hlen:len<=1048576)(h:InRow w ao (len*2) (obsF K V)):
 Calls Tryz.prog 46 #[.slice ao len cap] w fun e w'=>e=.returned (.slice (some ⟨w.heap.size,0,none⟩) len len)/\Below w.heap.size w w'/\Arr w' w.heap.size (len*2) (obsF K V):=by
 rcases h with h|⟨b,off,rfl,h⟩
 ·obtain rfl:len=0:=by omega
  exact toObsS_nil ao cap K V w
 ·exact toObsS_at b off len cap K V w hlen h
theorem eqObs_same(k v:Int)(w:World):
 Calls Tryz.prog 81 #[.agg #[.int .i64 k,.int .u64 v],.agg #[.int .i64 k,.int .u64 v]] w fun e w'=>e=.returned (.bool true)/\Below w.heap.size w w':=by
 go_enter Tryz.func81,Tryz.ntmps81;go_wp2;go_ret;exact⟨rfl,((Below.refl _ _).alloc (Nat.le_refl _) _).alloc (by simp) _⟩
theorem eqObsS_same(b off len cap b' off' cap':Nat)(K V:Nat->Int)(w:World)(hlen:len<=1048576)(hat:At w b off (len*2) (obsF K V))(hat':At w b' off' (len*2) (obsF K V)):
 Calls Tryz.prog 49 #[.slice (some ⟨b,off,none⟩) len cap,.slice (some ⟨b',off',none⟩) len cap'] w fun e w'=>e=.returned (.bool true)/\Below w.heap.size w w':=by
 have hb:=hat.lt;have hb':=hat'.lt;have HA:Hid (At w b off (len*2) (obsF K V)):=hat;have HA':Hid (At w b' off' (len*2) (obsF K V)):=hat';clear hat hat';go_enter Tryz.func49,Tryz.ntmps49;go_wp2;go_loopw [5](fun i wr=>∃k:Nat,k<=len/\i=.int .i64 k/\Below w.heap.size w wr)(fun i _=>len-(intOf i).toNat)
 case atStart=>exact⟨0,Nat.zero_le _,rfl,Below.refl _ _⟩
 case round=>
  obtain⟨k,hk,rfl,hbr⟩:=hrel;by_cases hlt:k<len
  ·have g0:=(hbr.cell (p:=⟨b,off+k*2,none⟩) hb).trans ((HA.out.cell (i:=k*2+0) (by omega)).trans (congrArg some (obsF_0 K V k)))
   have g1:=(hbr.cell (p:=⟨b,off+k*2+1,none⟩) hb).trans ((HA.out.cell (i:=k*2+1) (by omega)).trans (congrArg some (obsF_1 K V k)));have q0:=(hbr.cell (p:=⟨b',off'+k*2,none⟩) hb').trans ((HA'.out.cell (i:=k*2+0) (by omega)).trans (congrArg some (obsF_0 K V k)));have q1:=(hbr.cell (p:=⟨b',off'+k*2+1,none⟩) hb').trans ((HA'.out.cell (i:=k*2+1) (by omega)).trans (congrArg some (obsF_1 K V k)));have hlt':(k:Int)<(len:Int):=by omega
   go_wp2_with fail;go_region_with(go_at_call 81;refine(eqObs_same _ _ _).mono ?_;rintro e w'⟨rfl,hb2⟩);all_goals
    clear g0 g1 q0 q1;go_wp2;go_roundw
    case rel=>exact⟨k+1,by omega,by go_num,hbr.drew.trans (hb2.mono hbr.size)⟩
    case measure=>simp[intOf];omega
  ·go_wp2
   go_ret;exact⟨rfl,hbr⟩
theorem szObsS_ok(ao:Option Addr)(len cap:Nat)(left:Int)(w:World)(hlo:(len:Int)<=left)(hhi:left<=1048576):
 Calls Tryz.prog 42 #[.slice ao len cap,.int .i64 left] w fun e w'=>e=.returned (.int .i64 (left-len))/\w'=w:=by
 go_enter Tryz.func42,Tryz.ntmps42;go_wp2;go_ret;exact⟨rfl,rfl⟩
theorem szObsS_no(ao:Option Addr)(len cap:Nat)(left:Int)(w:World)(h0:0<=left)(hlo:left<(len:Int))(hm:len<=9223372036854775807):
 Calls Tryz.prog 42 #[.slice ao len cap,.int .i64 left] w fun e w'=>e=.returned (.int .i64 (-1))/\w'=w:=by
 go_enter Tryz.func42,Tryz.ntmps42;go_wp2;go_ret;exact⟨rfl,rfl⟩
theorem info_heap:(Tryz.prog.info? 69).map (fun i=>(i.zero,i.size,i.bytes))=some (some (.agg #[.int .u64 0,.bool false,.slice none 0 0]),3,40):=by kernel_rfl
theorem zeroHeap (i : Nat) : ((Value.agg #[.int .u64 0, .bool false, .slice none 0 0]).cells)[i % ((Value.agg #[.int .u64 0, .bool false, .slice none 0 0]).cells).size]! = heapZ i := by
 show (#[Value.int .u64 0, .bool false, .slice none 0 0] : Array Value)[i % 3]! = _;unfold heapZ;have : i % 3 < 3 := by omega
 match h : i % 3, this with
 | 0, _ => rfl
 | 1, _ => rfl
 | 2, _ => rfl
theorem toHeap_any(base:Int)(wr:Bool)(ao:Option Addr)(len cap:Nat)(dat:Nat->Int)(w:World)(hlen:len<=1048576)(h:InRow w ao len (numF .u8 dat)):
 Calls Tryz.prog 78 #[.agg #[.int .u64 base,.bool wr,.slice ao len cap]] w fun e w'=>∃B,w.heap.size<=B/\e=.returned (.agg #[.int .u64 base,.bool wr,.slice (some ⟨B,0,none⟩) len len])/\Below w.heap.size w w'/\Arr w' B len (numF .u8 dat):=by
 have HI:Hid (InRow w ao len (numF .u8 dat)):=h;clear h;go_enter Tryz.func78,Tryz.ntmps78;go_wp2_with fail;refine(toByteS_in _ _ _ dat _ hlen ?hin).mono ?_
 case hin=>exact HI.out.below ((((Below.refl _ _).alloc (Nat.le_refl _) _).alloc (by simp) _).alloc (by simp;omega) _) (Nat.le_refl _)
 rintro e w1⟨rfl,hb1,ha1⟩;have HA:Hid _:=ha1;clear ha1;obtain⟨hc1,hf1⟩:=bcell hb1;have hz1:w.heap.size+2<w1.heap.size:=by have:=hb1.size;simp at this;omega
 have hz2:w.heap.size+1<w1.heap.size:=by omega
 have hz3:w.heap.size<w1.heap.size:=by omega
 go_wp2;refine bodyPost_ret (v:=.agg #[.int .u64 base,.bool wr,.slice (some ⟨w.heap.size+1+1+1,0,none⟩) len len]) (by simp[results,Tryz.results78,go_sem,hc1]) rfl ⟨w.heap.size+1+1+1,by omega,rfl,?_,?_⟩
 ·exact((((((((Below.refl _ _).alloc (Nat.le_refl _) _).alloc (by simp) _).alloc (by simp;omega) _).trans (hb1.mono (by simp;omega))).setCell (by simp;omega) _).setCell (by simp) _).setCell (by simp) _).setCell (by simp) _
 ·have h3:Arr w1 (w.heap.size+1+1+1) len (numF .u8 dat):=by have:=HA.out;simp only[World.size_alloc]at this;exact this
  exact(((h3.other (by simp) _).other (by simp) _).other (by simp) _).other (by simp) _
theorem moved_congr{Hp:Nat->HeapV}{blk blk':Nat->Nat}{k:Nat}(h:∀i,i<k->blk i=blk' i)(p:Nat)(hp:p<k*3):heapF (fun i=>(Hp i).moved (blk i)) p=heapF (fun i=>(Hp i).moved (blk' i)) p:=
 heapF_congr hp fun i hi=>by rw[h i hi]
def putBlk(blk:Nat->Nat)(k C i:Nat):Nat:=if i=k then C else blk i
theorem putBlk_same(blk:Nat->Nat)(k C:Nat):putBlk blk k C k=C:=by simp[putBlk]
theorem putBlk_other{blk:Nat->Nat}{k C i:Nat}(h:i≠k):putBlk blk k C i=blk i:=by simp[putBlk,h]
def CopiedTo(w:World)(B n k:Nat)(Hp:Nat->HeapV)(blk:Nat->Nat):Prop:=
 Arr w B (n*3) (upTo (heapF fun i=>(Hp i).moved (blk i)) heapZ (k*3))/\(∀i,i<k->B<blk i/\Arr w (blk i) (Hp i).len (numF .u8 (Hp i).dat))/\∀i j,i<j->j<k->blk i<blk j
theorem copied_step{w w2:World}{B n k C:Nat}{Hp:Nat->HeapV}{blk:Nat->Nat}(hk:k<n)(h:CopiedTo w B n k Hp blk)(hb:Below w.heap.size w w2)(hC:w.heap.size<=C)(ha:Arr w2 C (Hp k).len (numF .u8 (Hp k).dat)):
 CopiedTo (w2.setCells B (k*3) [.int .u64 (Hp k).base,.bool (Hp k).wr,.slice (some ⟨C,0,none⟩) (Hp k).len (Hp k).len]) B n (k+1) Hp (putBlk blk k C):=by
 obtain⟨h1,h2,h3⟩:=h;have hB:B<C:=Nat.lt_of_lt_of_le h1.lt hC;have other:∀{b m:Nat}{f:Nat->Value},Arr w2 b m f->B≠b->Arr (w2.setCells B (k*3) [.int .u64 (Hp k).base,.bool (Hp k).wr,.slice (some ⟨C,0,none⟩) (Hp k).len (Hp k).len]) b m f:=fun h hne=>((h.other (a:=⟨B,k*3,none⟩) hne _).other (a:=⟨B,k*3+1,none⟩) hne _).other (a:=⟨B,k*3+1+1,none⟩) hne _
 refine⟨?_,?_,?_⟩
 ·rw[show(k+1)*3=k*3+3 by omega]
  refine Arr.fill (vs:=[.int .u64 (Hp k).base,.bool (Hp k).wr,.slice (some ⟨C,0,none⟩) (Hp k).len (Hp k).len]) ((h1.below hb h1.lt).retell fun i hi=>moved_congr (fun j hj=>(putBlk_other (by omega)).symm) i hi) (by simp;omega) fun j hj=>?_
  match j,hj with
  |0,_=>rw[heapF_0];rfl
  |1,_=>rw[heapF_1];rfl
  |2,_=>rw[heapF_2,putBlk_same];rfl
 ·intro i hi
  by_cases e:i=k
  ·subst e;rw[putBlk_same];exact⟨hB,other ha (by omega)⟩
  ·rw[putBlk_other e]
   obtain⟨q1,q2⟩:=h2 i (by omega);exact⟨q1,other (q2.below hb q2.lt) (by omega)⟩
 ·intro i j hij hj
  by_cases e:j=k
  ·subst e
   rw[putBlk_other (by omega),putBlk_same];exact Nat.lt_of_lt_of_le (h2 i (by omega)).2.lt hC
  ·rw[putBlk_other (by omega),putBlk_other e];exact h3 i j hij (by omega)
theorem copied_all{w:World}{B n:Nat}{Hp:Nat->HeapV}{blk:Nat->Nat}(h:CopiedTo w B n n Hp blk):Copied w B n Hp blk:=⟨h.1.filled,h.2.1,h.2.2⟩
theorem CopiedTo.below{w w':World}{C B n k:Nat}{Hp:Nat->HeapV}{blk:Nat->Nat}(h:CopiedTo w B n k Hp blk)(hb:Below C w w')(hC:w.heap.size<=C):CopiedTo w' B n k Hp blk:=
 ⟨h.1.below hb (Nat.lt_of_lt_of_le h.1.lt hC),fun i hi=>⟨(h.2.1 i hi).1,(h.2.1 i hi).2.below hb (Nat.lt_of_lt_of_le (h.2.1 i hi).2.lt hC)⟩,h.2.2⟩
theorem toHeapS_at(b off n cap:Nat)(Hp:Nat->HeapV)(w:World)(hn:n<=1048576)(hat:At w b off (n*3) (heapF Hp))(hin:∀i,i<n->(Hp i).len<=1048576/\InRow w (Hp i).ao (Hp i).len (numF .u8 (Hp i).dat)):
 Calls Tryz.prog 45 #[.slice (some ⟨b,off,none⟩) n cap] w fun e w'=>e=.returned (.slice (some ⟨w.heap.size,0,none⟩) n n)/\Below w.heap.size w w'/\∃blk,Copied w' w.heap.size n Hp blk:=by
 obtain⟨i0,hi,hz0,hz1,hz2⟩:=info_parts info_heap;have hb:=hat.lt;have HA:Hid (At w b off (n*3) (heapF Hp)):=hat;have HI:Hid (∀i,i<n->(Hp i).len<=1048576/\InRow w (Hp i).ao (Hp i).len (numF .u8 (Hp i).dat)):=hin;clear hat hin;go_enter Tryz.func45,Tryz.ntmps45;go_wp2_with(first|(at_make;refine wpList_make_full _ rfl _ _ 25 rfl w.heap.size 69 i0 _ 3 Tryz.underlying25 hi hz0 hz1 .i64 .i64 _ _ n rfl rfl ?c1 ?c2 ?c3 ?c4 ?c5 ?_)|go_in)
 case c1=>rfl
 case c2=>rfl
 case c3=>rw[hz2];omega
 case c4=>unfold maxLen;omega
 case c5=>exact Nat.le_refl _
 ·intro w1 hown hgrow
  have hbel:Below w.heap.size w w1:=(Below.refl _ _).grown hgrow (Nat.le_refl _) (by intro k hk;cases hk);have harr:CopiedTo w1 w.heap.size n 0 Hp (fun _=>0):=⟨Arr.made hown fun i hi=>by
   rw[made_get _ _ _ hi,Nat.zero_mul,upTo_zero];exact congrArg some (zeroHeap i),fun i hi=>by omega,fun i j _ hj=>by omega⟩
  clear hown hgrow hi hz0 hz1 hz2;go_wp2;go_loopw [4](fun i wr=>∃k:Nat,k<=n/\i=.int .i64 k/\Below w.heap.size w wr/\∃blk,CopiedTo wr w.heap.size n k Hp blk)(fun i _=>n-(intOf i).toNat)
  case atStart=>exact⟨0,Nat.zero_le _,rfl,hbel,_,harr⟩
  case round=>
   clear harr hbel;obtain⟨k,hk,rfl,hbr,blk,har⟩:=hrel;have HAR:Hid (CopiedTo wr w.heap.size n k Hp blk):=har;have hzr:=har.1.lt;clear har;by_cases hlt:k<n
   ·have g0:=(hbr.cell (p:=⟨b,off+k*3,none⟩) hb).trans ((HA.out.cell (i:=k*3+0) (by omega)).trans (congrArg some (heapF_0 Hp k)))
    have g1:=(hbr.cell (p:=⟨b,off+k*3+1,none⟩) hb).trans ((HA.out.cell (i:=k*3+1) (by omega)).trans (congrArg some (heapF_1 Hp k)));have g2:=(hbr.cell (p:=⟨b,off+k*3+2,none⟩) hb).trans ((HA.out.cell (i:=k*3+2) (by omega)).trans (congrArg some (heapF_2 Hp k)));go_wp2_with fail;refine(toHeap_any _ _ _ _ _ (Hp k).dat _ (HI.out k hlt).1 ((HI.out k hlt).2.below hbr (Nat.le_refl _))).mono ?_;rintro e w2⟨C,hC,rfl,hb2,ha2⟩;clear g0 g1 g2;have R:=copied_step hlt HAR.out hb2 hC ha2;have A2:=HAR.out.1.below hb2 hzr;have f2:=A2.free;have c0:=A2.cell (i:=k*3) (by omega);have c1:=A2.cell (i:=k*3+1) (by omega);have c2:=A2.cell (i:=k*3+2) (by omega);have HR:Hid (CopiedTo (w2.setCells w.heap.size (k*3) [.int .u64 (Hp k).base,.bool (Hp k).wr,.slice (some ⟨C,0,none⟩) (Hp k).len (Hp k).len]) w.heap.size n (k+1) Hp (putBlk blk k C)):=R;clear A2 R ha2;go_wp2;go_roundw
    case rel=>exact⟨k+1,by omega,by go_num,below_setCells (Nat.le_refl _) [.int .u64 (Hp k).base,.bool (Hp k).wr,.slice (some ⟨C,0,none⟩) (Hp k).len (Hp k).len] (k*3) (hbr.trans (hb2.mono hbr.size)),_,HR.out⟩
    case measure=>simp[intOf];omega
   ·go_wp2
    go_ret;obtain rfl:k=n:=by omega
    exact⟨rfl,hbr,blk,copied_all HAR.out⟩
theorem toHeapS_nil(ao:Option Addr)(cap:Nat)(Hp:Nat->HeapV)(w:World):
 Calls Tryz.prog 45 #[.slice ao 0 cap] w fun e w'=>e=.returned (.slice (some ⟨w.heap.size,0,none⟩) 0 0)/\Below w.heap.size w w'/\∃blk,Copied w' w.heap.size 0 Hp blk:=by
 obtain⟨i0,hi,hz0,hz1,hz2⟩:=info_parts info_heap;go_enter Tryz.func45,Tryz.ntmps45;go_wp2_with(first|(at_make;refine wpList_make_full _ rfl _ _ 25 rfl w.heap.size 69 i0 _ 3 Tryz.underlying25 hi hz0 hz1 .i64 .i64 _ _ 0 rfl rfl ?c1 ?c2 ?c3 ?c4 ?c5 ?_)|go_in)
 case c1=>rfl
 case c2=>rfl
 case c3=>rw[hz2];omega
 case c4=>unfold maxLen;omega
 case c5=>exact Nat.le_refl _
 ·intro w1 hown hgrow
  have hbel:Below w.heap.size w w1:=(Below.refl _ _).grown hgrow (Nat.le_refl _) (by intro k hk;cases hk);have harr:Arr w1 w.heap.size (0*3) (heapF fun i=>(Hp i).moved 0):=Arr.made hown fun i hi=>by omega
  have HX:Hid (Below w.heap.size w w1/\Copied w1 w.heap.size 0 Hp (fun _=>0)):=⟨hbel,harr,fun i hi=>by omega,fun i j _ hj=>by omega⟩
  clear hown hgrow hi hz0 hz1 hz2 hbel harr;go_wp2;refine wp_loop_rounds 1 ?_;rw[rounds_succ];go_wp2;go_ret;exact⟨rfl,HX.out.1,_,HX.out.2⟩
theorem toHeapS_in(ao:Option Addr)(n cap:Nat)(Hp:Nat->HeapV)(w:World)(hn:n<=1048576)(h:InRow w ao (n*3) (heapF Hp))(hin:∀i,i<n->(Hp i).len<=1048576/\InRow w (Hp i).ao (Hp i).len (numF .u8 (Hp i).dat)):
 Calls Tryz.prog 45 #[.slice ao n cap] w fun e w'=>e=.returned (.slice (some ⟨w.heap.size,0,none⟩) n n)/\Below w.heap.size w w'/\∃blk,Copied w' w.heap.size n Hp blk:=by
 rcases h with h|⟨b,off,rfl,h⟩
 ·obtain rfl:n=0:=by omega
  exact toHeapS_nil ao cap Hp w
 ·exact toHeapS_at b off n cap Hp w hn h hin
theorem eqHeap_same(base:Int)(wr:Bool)(b off len cap b' off' cap':Nat)(dat:Nat->Int)(w:World)(hlen:len<=1048576)(hat:At w b off len (numF .u8 dat))(hat':At w b' off' len (numF .u8 dat)):
 Calls Tryz.prog 80 #[.agg #[.int .u64 base,.bool wr,.slice (some ⟨b,off,none⟩) len cap],.agg #[.int .u64 base,.bool wr,.slice (some ⟨b',off',none⟩) len cap']] w fun e w'=>e=.returned (.bool true)/\Below w.heap.size w w':=by
 have HA:Hid (At w b off len (numF .u8 dat)):=hat;have HA':Hid (At w b' off' len (numF .u8 dat)):=hat';have hwr:(wr !=wr)=false:=by simp
 clear hat hat';go_enter Tryz.func80,Tryz.ntmps80;go_wp2_with fail;refine(eqByteS_same _ _ _ _ _ _ _ dat _ hlen ?h1 ?h2).mono ?_
 case h1=>exact HA.out.below (((Below.refl _ _).alloc (Nat.le_refl _) _).alloc (by simp) _) HA.out.lt
 case h2=>exact HA'.out.below (((Below.refl _ _).alloc (Nat.le_refl _) _).alloc (by simp) _) HA'.out.lt
 rintro e w1⟨rfl,hb1⟩;go_wp2;go_ret;exact⟨rfl,(((Below.refl _ _).alloc (Nat.le_refl _) _).alloc (by simp) _).trans (hb1.mono (by simp;omega))⟩
theorem eqHeapS_same(n cap B B' cap':Nat)(Hp:Nat->HeapV)(blk blk':Nat->Nat)(w:World)(hn:n<=1048576)(hlen:∀i,i<n->(Hp i).len<=1048576)(hc:Copied w B n Hp blk)(hc':Copied w B' n Hp blk'):
 Calls Tryz.prog 48 #[.slice (some ⟨B,0,none⟩) n cap,.slice (some ⟨B',0,none⟩) n cap'] w fun e w'=>e=.returned (.bool true)/\Below w.heap.size w w':=by
 have hb:=hc.1.lt;have hb':=hc'.1.lt;have HA:Hid (Copied w B n Hp blk):=hc;have HA':Hid (Copied w B' n Hp blk'):=hc';have HL:Hid (∀i,i<n->(Hp i).len<=1048576):=hlen;clear hc hc' hlen;go_enter Tryz.func48,Tryz.ntmps48;go_wp2;go_loopw [5](fun i wr=>∃k:Nat,k<=n/\i=.int .i64 k/\Below w.heap.size w wr)(fun i _=>n-(intOf i).toNat)
 case atStart=>exact⟨0,Nat.zero_le _,rfl,Below.refl _ _⟩
 case round=>
  obtain⟨k,hk,rfl,hbr⟩:=hrel;by_cases hlt:k<n
  ·have g0:=(hbr.cell (p:=⟨B,k*3,none⟩) hb).trans ((HA.out.1.cell (i:=k*3+0) (by omega)).trans (congrArg some (heapF_0 _ k)))
   have g1:=(hbr.cell (p:=⟨B,k*3+1,none⟩) hb).trans ((HA.out.1.cell (i:=k*3+1) (by omega)).trans (congrArg some (heapF_1 _ k)));have g2:=(hbr.cell (p:=⟨B,k*3+2,none⟩) hb).trans ((HA.out.1.cell (i:=k*3+2) (by omega)).trans (congrArg some (heapF_2 _ k)));have q0:=(hbr.cell (p:=⟨B',k*3,none⟩) hb').trans ((HA'.out.1.cell (i:=k*3+0) (by omega)).trans (congrArg some (heapF_0 _ k)));have q1:=(hbr.cell (p:=⟨B',k*3+1,none⟩) hb').trans ((HA'.out.1.cell (i:=k*3+1) (by omega)).trans (congrArg some (heapF_1 _ k)));have q2:=(hbr.cell (p:=⟨B',k*3+2,none⟩) hb').trans ((HA'.out.1.cell (i:=k*3+2) (by omega)).trans (congrArg some (heapF_2 _ k)));simp only[HeapV.moved]at g0 g1 g2 q0 q1 q2;have hlt':(k:Int)<(n:Int):=by omega
   go_wp2_with fail;go_region_with(go_at_call 80;refine(eqHeap_same _ _ _ _ _ _ _ _ _ (Hp k).dat _ (HL.out k hlt) ((HA.out.2.1 k hlt).2.at.below hbr.drew (HA.out.2.1 k hlt).2.lt) ((HA'.out.2.1 k hlt).2.at.below hbr.drew (HA'.out.2.1 k hlt).2.lt)).mono ?_;rintro e w'⟨rfl,hb2⟩);all_goals
    clear g0 g1 g2 q0 q1 q2;go_wp2;go_roundw
    case rel=>exact⟨k+1,by omega,by go_num,hbr.drew.trans (hb2.mono hbr.size)⟩
    case measure=>simp[intOf];omega
  ·go_wp2
   go_ret;exact⟨rfl,hbr⟩
theorem szHeap_ok(base:Int)(wr:Bool)(ao:Option Addr)(len cap:Nat)(left:Int)(w:World)(hlo:(len:Int)<=left)(hhi:left<=1048576):
 Calls Tryz.prog 77 #[.agg #[.int .u64 base,.bool wr,.slice ao len cap],.int .i64 left] w fun e w'=>e=.returned (.int .i64 (left-len))/\Below w.heap.size w w':=by
 go_enter Tryz.func77,Tryz.ntmps77;go_wp2_with fail;refine(szByteS_ok _ _ _ _ _ hlo hhi).mono ?_;rintro e w1⟨rfl,rfl⟩;go_wp2;go_ret;exact⟨rfl,(Below.refl _ _).alloc (Nat.le_refl _) _⟩
theorem szHeap_no(base:Int)(wr:Bool)(ao:Option Addr)(len cap:Nat)(left:Int)(w:World)(h0:0<=left)(hlo:left<(len:Int))(hm:len<=9223372036854775807):
 Calls Tryz.prog 77 #[.agg #[.int .u64 base,.bool wr,.slice ao len cap],.int .i64 left] w fun e w'=>e=.returned (.int .i64 (-1))/\Below w.heap.size w w':=by
 go_enter Tryz.func77,Tryz.ntmps77;go_wp2_with fail;refine(szByteS_no _ _ _ _ _ h0 hlo hm).mono ?_;rintro e w1⟨rfl,rfl⟩;go_wp2;go_ret;exact⟨rfl,(Below.refl _ _).alloc (Nat.le_refl _) _⟩
def Left(r left:Int)(small:Prop):Prop:=r= -1∨(0<=r/\r<=left/\small)
theorem szHeapS_at(b off n cap:Nat)(Hp:Nat->HeapV)(left:Int)(w:World)(h0:(n:Int)<=left)(h1:left<=1048576)(hat:At w b off (n*3) (heapF Hp))(hm:∀i,i<n->(Hp i).len<=9223372036854775807):
 Calls Tryz.prog 41 #[.slice (some ⟨b,off,none⟩) n cap,.int .i64 left] w fun e w'=>∃r,e=.returned (.int .i64 r)/\Left r left (∀i,i<n->(Hp i).len<=1048576)/\Below w.heap.size w w':=by
 have hb:=hat.lt;have HA:Hid (At w b off (n*3) (heapF Hp)):=hat;have HM:Hid (∀i,i<n->(Hp i).len<=9223372036854775807):=hm;clear hat hm;go_enter Tryz.func41,Tryz.ntmps41;go_wp2;go_loopw [1,5](fun l i wr=>∃(k:Nat)(r:Int),k<=n/\i=.int .i64 k/\l=.int .i64 r/\0<=r/\r<=left/\Below w.heap.size w wr/\∀i,i<k->(Hp i).len<=1048576)(fun _ i _=>n-(intOf i).toNat)
 case atStart=>exact⟨0,_,Nat.zero_le _,rfl,rfl,by omega,by omega,Below.refl _ _,fun i hi=>by omega⟩
 case round=>
  obtain⟨k,r,hk,rfl,rfl,hr0,hr1,hbr,hsm⟩:=hrel;have HS:Hid (∀i,i<k->(Hp i).len<=1048576):=hsm;clear hsm;by_cases hlt:k<n
  ·have g0:=(hbr.cell (p:=⟨b,off+k*3,none⟩) hb).trans ((HA.out.cell (i:=k*3+0) (by omega)).trans (congrArg some (heapF_0 Hp k)))
   have g1:=(hbr.cell (p:=⟨b,off+k*3+1,none⟩) hb).trans ((HA.out.cell (i:=k*3+1) (by omega)).trans (congrArg some (heapF_1 Hp k)));have g2:=(hbr.cell (p:=⟨b,off+k*3+2,none⟩) hb).trans ((HA.out.cell (i:=k*3+2) (by omega)).trans (congrArg some (heapF_2 Hp k)));go_wp2_with fail;by_cases hs:((Hp k).len:Int)<=r
   ·refine(szHeap_ok _ _ _ _ _ _ _ hs (by omega)).mono ?_
    rintro e w1⟨rfl,hb1⟩;clear g0 g1 g2;go_wp2;go_roundw
    case rel=>exact⟨k+1,r-(Hp k).len,by omega,by go_num,rfl,by omega,by omega,hbr.trans (hb1.mono hbr.size),fun i hi=>by
     by_cases e:i=k
     ·subst e;omega
     ·exact HS.out i (by omega)⟩
    case measure=>simp[intOf];omega
   ·refine(szHeap_no _ _ _ _ _ _ _ hr0 (by omega) (HM.out k hlt)).mono ?_
    rintro e w1⟨rfl,hb1⟩;clear g0 g1 g2;go_wp2;go_ret;exact⟨_,rfl,.inl rfl,hbr.trans (hb1.mono hbr.size)⟩
  ·go_wp2
   go_ret;obtain rfl:k=n:=by omega
   exact⟨_,rfl,.inr ⟨hr0,hr1,HS.out⟩,hbr⟩
theorem szHeapS_no(ao:Option Addr)(n cap:Nat)(left:Int)(w:World)(h0:0<=left)(hlo:left<(n:Int))(hm:n<=9223372036854775807):
 Calls Tryz.prog 41 #[.slice ao n cap,.int .i64 left] w fun e w'=>e=.returned (.int .i64 (-1))/\Below w.heap.size w w':=by
 go_enter Tryz.func41,Tryz.ntmps41;go_wp2;go_ret;exact⟨rfl,Below.refl _ _⟩
theorem szHeapS_nil(ao:Option Addr)(cap:Nat)(left:Int)(w:World)(h0:0<=left)(h1:left<=1048576):
 Calls Tryz.prog 41 #[.slice ao 0 cap,.int .i64 left] w fun e w'=>e=.returned (.int .i64 left)/\Below w.heap.size w w':=by
 go_enter Tryz.func41,Tryz.ntmps41;go_wp2;refine wp_loop_rounds 1 ?_;rw[rounds_succ];go_wp2;go_ret;exact⟨rfl,Below.refl _ _⟩
theorem szHeapS_any(ao:Option Addr)(n cap:Nat)(Hp:Nat->HeapV)(left:Int)(w:World)(h0:0<=left)(h1:left<=1048576)(hn:n<=9223372036854775807)(h:InRow w ao (n*3) (heapF Hp))(hm:∀i,i<n->(Hp i).len<=9223372036854775807):
 Calls Tryz.prog 41 #[.slice ao n cap,.int .i64 left] w fun e w'=>∃r,e=.returned (.int .i64 r)/\Left r left (n<=1048576/\∀i,i<n->(Hp i).len<=1048576)/\Below w.heap.size w w':=by
 by_cases hl:(n:Int)<=left
 ·rcases h with h|⟨b,off,rfl,h⟩
  ·obtain rfl:n=0:=by omega
   refine(szHeapS_nil ao cap left w h0 h1).mono ?_;rintro e w1⟨rfl,hb⟩;exact⟨_,rfl,.inr ⟨h0,Int.le_refl _,by omega,fun i hi=>by omega⟩,hb⟩
  ·refine(szHeapS_at b off n cap Hp left w hl h1 h hm).mono ?_
   rintro e w1⟨r,rfl,hr,hb⟩;refine⟨r,rfl,?_,hb⟩;rcases hr with hr|⟨a,b,c⟩
   ·exact .inl hr
   ·exact .inr ⟨a,b,by omega,c⟩
 ·refine(szHeapS_no ao n cap left w h0 (by omega) hn).mono ?_
  rintro e w1⟨rfl,hb⟩;exact⟨_,rfl,.inl rfl,hb⟩
structure MachIn(w:World)(aoR:Option Addr)(nR:Nat)(R:Nat->Int)(aoH:Option Addr)(nH:Nat)(Hp:Nat->HeapV)(aoO:Option Addr)(nO:Nat)(K V:Nat->Int):Prop where
 regs:InRow w aoR nR (numF .u64 R)
 heaps:InRow w aoH (nH*3) (heapF Hp)
 data:∀i,i<nH->InRow w (Hp i).ao (Hp i).len (numF .u8 (Hp i).dat)
 obs:InRow w aoO (nO*2) (obsF K V)
structure Small(nR nH:Nat)(Hp:Nat->HeapV)(nO:Nat):Prop where
 regs:nR<=1048576
 heaps:nH<=1048576
 data:∀i,i<nH->(Hp i).len<=1048576
 obs:nO<=1048576
structure MachCp(w:World)(bR nR:Nat)(R:Nat->Int)(bH nH:Nat)(Hp:Nat->HeapV)(blk:Nat->Nat)(bO nO:Nat)(K V:Nat->Int):Prop where
 regs:Arr w bR nR (numF .u64 R)
 heaps:Copied w bH nH Hp blk
 obs:Arr w bO (nO*2) (obsF K V)
 o1:bR<bH
 o2:∀i,i<nH->blk i<bO
 o3:bH<bO
theorem MachIn.below{w w':World}{B:Nat}{aoR:Option Addr}{nR:Nat}{R:Nat->Int}{aoH:Option Addr}{nH:Nat}{Hp:Nat->HeapV}{aoO:Option Addr}{nO:Nat}{K V:Nat->Int}(h:MachIn w aoR nR R aoH nH Hp aoO nO K V)(hb:Below B w w')(hB:w.heap.size<=B):MachIn w' aoR nR R aoH nH Hp aoO nO K V:=
 ⟨h.regs.below hb hB,h.heaps.below hb hB,fun i hi=>(h.data i hi).below hb hB,h.obs.below hb hB⟩
theorem MachCp.below{w w':World}{B bR nR:Nat}{R:Nat->Int}{bH nH:Nat}{Hp:Nat->HeapV}{blk:Nat->Nat}{bO nO:Nat}{K V:Nat->Int}(h:MachCp w bR nR R bH nH Hp blk bO nO K V)(hb:Below B w w')(hB:w.heap.size<=B):MachCp w' bR nR R bH nH Hp blk bO nO K V:=
 ⟨h.regs.below hb (Nat.lt_of_lt_of_le h.regs.lt hB),h.heaps.below hb hB,h.obs.below hb (Nat.lt_of_lt_of_le h.obs.lt hB),h.o1,h.o2,h.o3⟩
theorem Copied.low{w:World}{B n:Nat}{Hp:Nat->HeapV}{blk:Nat->Nat}(h:Copied w B n Hp blk){a:Addr}(ha:a.block<B)(v:Value):Copied (w.setCell a v) B n Hp blk:=
 ⟨h.1.other (by omega) v,fun i hi=>⟨(h.2.1 i hi).1,(h.2.1 i hi).2.other (by have:=(h.2.1 i hi).1;omega) v⟩,h.2.2⟩
theorem MachCp.low{w:World}{bR nR:Nat}{R:Nat->Int}{bH nH:Nat}{Hp:Nat->HeapV}{blk:Nat->Nat}{bO nO:Nat}{K V:Nat->Int}(h:MachCp w bR nR R bH nH Hp blk bO nO K V){a:Addr}(ha:a.block<bR)(v:Value):MachCp (w.setCell a v) bR nR R bH nH Hp blk bO nO K V:=
 ⟨h.regs.other (by omega) v,h.heaps.low (by have:=h.o1;omega) v,h.obs.other (by have:=h.o1;have:=h.o3;omega) v,h.o1,h.o2,h.o3⟩
theorem toMach_any(aoR:Option Addr)(nR capR:Nat)(R:Nat->Int)(z c hz hc:Bool)(aoH:Option Addr)(nH capH:Nat)(Hp:Nat->HeapV)(pc st:Int)(aoO:Option Addr)(nO capO:Nat)(K V:Nat->Int)(w:World)
 (hs:Small nR nH Hp nO)(hin:MachIn w aoR nR R aoH nH Hp aoO nO K V):
 Calls Tryz.prog 18 #[.agg #[.slice aoR nR capR,.bool z,.bool c,.bool hz,.bool hc,.slice aoH nH capH,.int .i64 pc,.int .i64 st,.slice aoO nO capO]] w fun e w'=>
  ∃bR bH blk bO,w.heap.size<=bR/\e=.returned (.agg #[.slice (some ⟨bR,0,none⟩) nR nR,.bool z,.bool c,.bool hz,.bool hc,.slice (some ⟨bH,0,none⟩) nH nH,.int .i64 pc,.int .i64 st,.slice (some ⟨bO,0,none⟩) nO nO])/\Below w.heap.size w w'/\MachCp w' bR nR R bH nH Hp blk bO nO K V:=by
 have HS:Hid (Small nR nH Hp nO):=hs;have HI:Hid (MachIn w aoR nR R aoH nH Hp aoO nO K V):=hin;clear hs hin;go_enter Tryz.func18,Tryz.ntmps18;go_wp2_with fail;have b0:=(((Below.refl w.heap.size w).alloc (Nat.le_refl _) (.cells #[.slice aoR nR capR,.bool z,.bool c,.bool hz,.bool hc,.slice aoH nH capH,.int .i64 pc,.int .i64 st,.slice aoO nO capO] 42)).alloc (by simp) (.cells #[.slice none 0 0,.bool false,.bool false,.bool false,.bool false,.slice none 0 0,.int .i64 0,.int .i64 0,.slice none 0 0] 28)).alloc (by simp;omega) (.cells #[.slice none 0 0,.bool false,.bool false,.bool false,.bool false,.slice none 0 0,.int .i64 0,.int .i64 0,.slice none 0 0] 28);refine(toUint64S_in _ _ _ R _ HS.out.regs ?h1).mono ?_
 case h1=>exact HI.out.regs.below b0 (Nat.le_refl _)
 rintro e w1⟨rfl,hb1,ha1⟩;have b1:=b0.trans (hb1.mono (by simp;omega));have HB1:Hid (Below w.heap.size w w1):=b1;have t1:Arr w1 (w.heap.size+1+1+1) nR (numF .u64 R):=by simp only[World.size_alloc]at ha1;exact ha1
 have HA1:Hid (Arr w1 (w.heap.size+1+1+1) nR (numF .u64 R)):=t1;clear b0 b1 ha1 t1;obtain⟨hc1,hf1⟩:=bcell hb1;have hz1:w.heap.size+2<w1.heap.size:=by have:=hb1.size;simp at this;omega
 have hz2:w.heap.size+1<w1.heap.size:=by omega
 have hz3:w.heap.size<w1.heap.size:=by omega
 clear hb1;go_wp2_with fail;have s1:=((((HB1.out.setCell (p:=⟨w.heap.size+1+1,0,none⟩) (by simp;omega) (.slice (some ⟨w.heap.size+1+1+1,0,none⟩) nR nR)).setCell (p:=⟨w.heap.size+1+1,1,none⟩) (by simp;omega) (.bool z)).setCell (p:=⟨w.heap.size+1+1,2,none⟩) (by simp;omega) (.bool c)).setCell (p:=⟨w.heap.size+1+1,3,none⟩) (by simp;omega) (.bool hz)).setCell (p:=⟨w.heap.size+1+1,4,none⟩) (by simp;omega) (.bool hc);refine(toHeapS_in _ _ _ Hp _ HS.out.heaps ?h2 ?h3).mono ?_
 case h2=>exact HI.out.heaps.below s1 (Nat.le_refl _)
 case h3=>exact fun i hi=>⟨HS.out.data i hi,(HI.out.data i hi).below s1 (Nat.le_refl _)⟩
 rintro e w2⟨rfl,hb2,blk,ha2⟩;have t2:Below w.heap.size w w2:=s1.trans (hb2.mono (by simp;omega));have HB2:Hid (Below w.heap.size w w2):=t2;have t3:Copied w2 w1.heap.size nH Hp blk:=by simp only[World.size_setCell]at ha2;exact ha2
 have HA2:Hid (Copied w2 w1.heap.size nH Hp blk):=t3;have t4:Arr w2 (w.heap.size+1+1+1) nR (numF .u64 R):=(((((HA1.out.other (a:=⟨w.heap.size+1+1,0,none⟩) (by simp) (.slice (some ⟨w.heap.size+1+1+1,0,none⟩) nR nR)).other (a:=⟨w.heap.size+1+1,1,none⟩) (by simp) (.bool z)).other (a:=⟨w.heap.size+1+1,2,none⟩) (by simp) (.bool c)).other (a:=⟨w.heap.size+1+1,3,none⟩) (by simp) (.bool hz)).other (a:=⟨w.heap.size+1+1,4,none⟩) (by simp) (.bool hc)).below hb2 (by simp;exact HA1.out.lt);have HA3:Hid (Arr w2 (w.heap.size+1+1+1) nR (numF .u64 R)):=t4;clear s1 t2 t3 t4 ha2;obtain⟨hc2,hf2⟩:=bcell hb2;have hy:w1.heap.size<=w2.heap.size:=by have:=hb2.size;simpa using this
 have hy1:w.heap.size+2<w2.heap.size:=by omega
 have hy2:w.heap.size+1<w2.heap.size:=by omega
 have hy3:w.heap.size<w2.heap.size:=by omega
 clear hb2;go_wp2_with fail;have s2:=((HB2.out.setCell (p:=⟨w.heap.size+1+1,5,none⟩) (by simp;omega) (.slice (some ⟨w1.heap.size,0,none⟩) nH nH)).setCell (p:=⟨w.heap.size+1+1,6,none⟩) (by simp;omega) (.int .i64 pc)).setCell (p:=⟨w.heap.size+1+1,7,none⟩) (by simp;omega) (.int .i64 st);refine(toObsS_in _ _ _ K V _ HS.out.obs ?h4).mono ?_
 case h4=>exact HI.out.obs.below s2 (Nat.le_refl _)
 rintro e w3⟨rfl,hb3,ha3⟩;have t1:Below w.heap.size w w3:=s2.trans (hb3.mono (by simp;omega));have HB3:Hid (Below w.heap.size w w3):=t1;have t2:Arr w3 w2.heap.size (nO*2) (obsF K V):=by simp only[World.size_setCell]at ha3;exact ha3
 have HA4:Hid (Arr w3 w2.heap.size (nO*2) (obsF K V)):=t2;obtain⟨hc3,hf3⟩:=bcell hb3;have hx:w2.heap.size<=w3.heap.size:=by have:=hb3.size;simpa using this
 have hx1:w.heap.size+2<w3.heap.size:=by omega
 have hx2:w.heap.size+1<w3.heap.size:=by omega
 have hx3:w.heap.size<w3.heap.size:=by omega
 have HB:Hid (Below (((w2.setCell ⟨w.heap.size+1+1,5,none⟩ (.slice (some ⟨w1.heap.size,0,none⟩) nH nH)).setCell ⟨w.heap.size+1+1,6,none⟩ (.int .i64 pc)).setCell ⟨w.heap.size+1+1,7,none⟩ (.int .i64 st)).heap.size (((w2.setCell ⟨w.heap.size+1+1,5,none⟩ (.slice (some ⟨w1.heap.size,0,none⟩) nH nH)).setCell ⟨w.heap.size+1+1,6,none⟩ (.int .i64 pc)).setCell ⟨w.heap.size+1+1,7,none⟩ (.int .i64 st)) w3):=hb3;clear hb3 s2 t1 t2 ha3;go_wp2;refine bodyPost_ret (v:=.agg #[.slice (some ⟨w.heap.size+1+1+1,0,none⟩) nR nR,.bool z,.bool c,.bool hz,.bool hc,.slice (some ⟨w1.heap.size,0,none⟩) nH nH,.int .i64 pc,.int .i64 st,.slice (some ⟨w2.heap.size,0,none⟩) nO nO]) (by simp[results,Tryz.results18,go_sem,hc1,hc2,hc3,hz2,hy2]) rfl ⟨w.heap.size+1+1+1,w1.heap.size,blk,w2.heap.size,by omega,rfl,?_,?_⟩
 ·exact(((((((((HB3.out.setCell (by simp;omega) _).setCell (by simp) _).setCell (by simp) _).setCell (by simp) _).setCell (by simp) _).setCell (by simp) _).setCell (by simp) _).setCell (by simp) _).setCell (by simp) _).setCell (by simp) _
 ·have m3:MachCp w3 (w.heap.size+1+1+1) nR R w1.heap.size nH Hp blk w2.heap.size nO K V:=by
   have l1:=HA1.out.lt;refine⟨?_,?_,HA4.out,l1,fun i hi=>(HA2.out.2.1 i hi).2.lt,HA2.out.1.lt⟩
   ·exact(((HA3.out.other (by simp) _).other (by simp) _).other (by simp) _).below HB.out (by simp;exact HA3.out.lt)
   ·exact(((HA2.out.low (by simp;omega) _).low (by simp;omega) _).low (by simp;omega) _).below HB.out (Nat.le_refl _)
  exact(((((((((m3.low (by simp) _).low (by simp) _).low (by simp) _).low (by simp) _).low (by simp) _).low (by simp) _).low (by simp) _).low (by simp) _).low (by simp) _).low (by simp) _
theorem eqMach_same(bR nR:Nat)(R:Nat->Int)(z c hz hc:Bool)(bH nH:Nat)(Hp:Nat->HeapV)(blk:Nat->Nat)(pc st:Int)(bO nO:Nat)(K V:Nat->Int)(bR' bH':Nat)(blk':Nat->Nat)(bO':Nat)(w:World)
 (hs:Small nR nH Hp nO)(h:MachCp w bR nR R bH nH Hp blk bO nO K V)(h':MachCp w bR' nR R bH' nH Hp blk' bO' nO K V):
 Calls Tryz.prog 19 #[.agg #[.slice (some ⟨bR,0,none⟩) nR nR,.bool z,.bool c,.bool hz,.bool hc,.slice (some ⟨bH,0,none⟩) nH nH,.int .i64 pc,.int .i64 st,.slice (some ⟨bO,0,none⟩) nO nO],
  .agg #[.slice (some ⟨bR',0,none⟩) nR nR,.bool z,.bool c,.bool hz,.bool hc,.slice (some ⟨bH',0,none⟩) nH nH,.int .i64 pc,.int .i64 st,.slice (some ⟨bO',0,none⟩) nO nO]] w fun e w'=>e=.returned (.bool true)/\Below w.heap.size w w':=by
 have HS:Hid (Small nR nH Hp nO):=hs;have H1:Hid (MachCp w bR nR R bH nH Hp blk bO nO K V):=h;have H2:Hid (MachCp w bR' nR R bH' nH Hp blk' bO' nO K V):=h';have e1:(z !=z)=false:=by simp
 have e2:(c !=c)=false:=by simp
 have e3:(hz !=hz)=false:=by simp
 have e4:(hc !=hc)=false:=by simp
 clear hs h h';go_enter Tryz.func19,Tryz.ntmps19;go_wp2_with fail;have b0:=((Below.refl w.heap.size w).alloc (Nat.le_refl _) (.cells #[.slice (some ⟨bR,0,none⟩) nR nR,.bool z,.bool c,.bool hz,.bool hc,.slice (some ⟨bH,0,none⟩) nH nH,.int .i64 pc,.int .i64 st,.slice (some ⟨bO,0,none⟩) nO nO] 28)).alloc (by simp) (.cells #[.slice (some ⟨bR',0,none⟩) nR nR,.bool z,.bool c,.bool hz,.bool hc,.slice (some ⟨bH',0,none⟩) nH nH,.int .i64 pc,.int .i64 st,.slice (some ⟨bO',0,none⟩) nO nO] 28);refine(eqUint64S_same _ _ _ _ _ _ _ R _ HS.out.regs ?h1 ?h2).mono ?_
 case h1=>exact(H1.out.below b0 (Nat.le_refl _)).regs.at
 case h2=>exact(H2.out.below b0 (Nat.le_refl _)).regs.at
 rintro e w1⟨rfl,hb1⟩;have b1:=b0.trans (hb1.mono (by simp;omega));have HB1:Hid (Below w.heap.size w w1):=b1;obtain⟨hc1,_⟩:=bcell hb1;have hz2:w.heap.size+1<w1.heap.size:=by have:=hb1.size;simp at this;omega
 have hz3:w.heap.size<w1.heap.size:=by omega
 clear b0 b1 hb1;go_wp2_with fail;refine(eqHeapS_same _ _ _ _ _ Hp blk blk' _ HS.out.heaps HS.out.data ?h3 ?h4).mono ?_
 case h3=>exact(H1.out.below HB1.out (Nat.le_refl _)).heaps
 case h4=>exact(H2.out.below HB1.out (Nat.le_refl _)).heaps
 rintro e w2⟨rfl,hb2⟩;have HB2:Hid (Below w.heap.size w w2):=HB1.out.trans (hb2.mono HB1.out.size);obtain⟨hc2,_⟩:=bcell hb2;have hy2:w.heap.size+1<w2.heap.size:=Nat.lt_of_lt_of_le hz2 hb2.size;have hy3:w.heap.size<w2.heap.size:=by omega
 clear hb2;go_wp2_with fail;refine(eqObsS_same _ _ _ _ _ _ _ K V _ HS.out.obs ?h5 ?h6).mono ?_
 case h5=>exact(H1.out.below HB2.out (Nat.le_refl _)).obs.at
 case h6=>exact(H2.out.below HB2.out (Nat.le_refl _)).obs.at
 rintro e w3⟨rfl,hb3⟩;go_wp2;go_ret;exact⟨rfl,HB2.out.trans (hb3.mono HB2.out.size)⟩
theorem szMach_any(aoR:Option Addr)(nR capR:Nat)(z c hz hc:Bool)(aoH:Option Addr)(nH capH:Nat)(Hp:Nat->HeapV)(pc st:Int)(aoO:Option Addr)(nO capO:Nat)(left:Int)(w:World)(h0:0<=left)(h1:left<=1048576)
 (mR:nR<=9223372036854775807)(mH:nH<=9223372036854775807)(mD:∀i,i<nH->(Hp i).len<=9223372036854775807)(mO:nO<=9223372036854775807)(hh:InRow w aoH (nH*3) (heapF Hp)):
 Calls Tryz.prog 15 #[.agg #[.slice aoR nR capR,.bool z,.bool c,.bool hz,.bool hc,.slice aoH nH capH,.int .i64 pc,.int .i64 st,.slice aoO nO capO],.int .i64 left] w fun e w'=>
  ∃r,e=.returned (.int .i64 r)/\Left r left (Small nR nH Hp nO)/\Below w.heap.size w w':=by
 have HI:Hid (InRow w aoH (nH*3) (heapF Hp)):=hh;have HD:Hid (∀i,i<nH->(Hp i).len<=9223372036854775807):=mD;clear hh mD;have b0:=(Below.refl w.heap.size w).alloc (Nat.le_refl _) (.cells #[.slice aoR nR capR,.bool z,.bool c,.bool hz,.bool hc,.slice aoH nH capH,.int .i64 pc,.int .i64 st,.slice aoO nO capO] 42);have HB0:Hid (Below w.heap.size w (w.alloc (.cells #[.slice aoR nR capR,.bool z,.bool c,.bool hz,.bool hc,.slice aoH nH capH,.int .i64 pc,.int .i64 st,.slice aoO nO capO] 42))):=b0;clear b0;by_cases hr:(nR:Int)<=left
 ·go_enter Tryz.func15,Tryz.ntmps15
  go_wp2_with fail;refine(szUint64S_ok _ _ _ _ _ hr h1).mono ?_;rintro e w1⟨rfl,rfl⟩;go_wp2_with fail;refine(szHeapS_any _ _ _ Hp _ _ (by omega) (by omega) mH (HI.out.below HB0.out (Nat.le_refl _)) HD.out).mono ?_;rintro e w2⟨r,rfl,hl,hb2⟩;have b2:=HB0.out.trans (hb2.mono (by simp));have HB2:Hid (Below w.heap.size w w2):=b2;obtain⟨hc2,_⟩:=bcell hb2;have hy:w.heap.size<w2.heap.size:=by have:=hb2.size;simp at this;omega
  clear hb2 b2;rcases hl with rfl|⟨hr0,hr1,hn,hd⟩
  ·go_wp2
   go_ret;exact⟨_,rfl,.inl rfl,HB2.out⟩
  ·have HX:Hid (nH<=1048576/\∀i,i<nH->(Hp i).len<=1048576):=⟨hn,hd⟩
   clear hn hd;by_cases ho:(nO:Int)<=r
   ·go_wp2_with fail
    refine(szObsS_ok _ _ _ _ _ ho (by omega)).mono ?_;rintro e w3⟨rfl,rfl⟩;go_wp2;go_ret;exact⟨_,rfl,.inr ⟨by omega,by omega,by omega,HX.out.1,HX.out.2,by omega⟩,HB2.out⟩
   ·go_wp2_with fail
    refine(szObsS_no _ _ _ _ _ hr0 (by omega) mO).mono ?_;rintro e w3⟨rfl,rfl⟩;go_wp2;go_ret;exact⟨_,rfl,.inl rfl,HB2.out⟩
 ·go_enter Tryz.func15,Tryz.ntmps15
  go_wp2_with fail;refine(szUint64S_no _ _ _ _ _ h0 (by omega) mR).mono ?_;rintro e w1⟨rfl,rfl⟩;go_wp2;go_ret;exact⟨_,rfl,.inl rfl,HB0.out⟩
end Go.Proofs.YtpbceodheeepoaaGreat
