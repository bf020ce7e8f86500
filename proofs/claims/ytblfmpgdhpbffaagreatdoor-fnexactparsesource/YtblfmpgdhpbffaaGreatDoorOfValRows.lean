import Derived.Test.YtblfmpgdhpbffaaGreatDoorRows
import Derived.Test.YtblfmpgdhpbffaaGreatDoorOfOpenRow
import Derived.WalkKit
import Derived.WalkSpells
import Derived.WalkLawsBesides
import Derived.Deep.QuietTactic
import Derived.BigQuiet
import Derived.Deep.RegionWith
import Derived.BigRegion
set_option maxHeartbeats 400000
namespace Go.Proofs.YtblfmpgdhpbffaaGreatDoor
open Go.RowKit
structure VV where
 k:Int
 s:Bool
 m:Int
 h:Int
 lo:Int
 hi:Int
def VV.v(x:VV):Value:=.agg #[.int .i64 x.k,.bool x.s,.int .i64 x.m,.int .i64 x.h,.int .i64 x.lo,.int .i64 x.hi]
theorem eqVal_same(k:Int)(s:Bool)(m h lo hi:Int)(w:World):
 Calls Tryz.prog 113 #[.agg #[.int .i64 k,.bool s,.int .i64 m,.int .i64 h,.int .i64 lo,.int .i64 hi],.agg #[.int .i64 k,.bool s,.int .i64 m,.int .i64 h,.int .i64 lo,.int .i64 hi]] w fun e w'=>e=.returned (.bool true)/\Below w.heap.size w w':=by
 go_enter Tryz.func113,Tryz.ntmps113;go_wp2;go_ret;exact⟨rfl,((Below.refl _ _).alloc (Nat.le_refl _) _).alloc (by simp) _⟩
end Go.Proofs.YtblfmpgdhpbffaaGreatDoor
namespace Go.Proofs.YtblfmpgdhpbffaaGreatDoor
open Go.ChangeShapes Go.WideShapes Go.ChangeAt Go.RowKit Go.Deep
structure HS where
 size:Int
 s:Bool
 w:Bool
end Go.Proofs.YtblfmpgdhpbffaaGreatDoor
namespace Go.Proofs.YtblfmpgdhpbffaaGreatDoor
open Go.RowKit
theorem eqHeapSig_same(size:Int)(s w':Bool)(w:World):
 Calls Tryz.prog 112 #[.agg #[.int .i64 size,.bool s,.bool w'],.agg #[.int .i64 size,.bool s,.bool w']] w fun e wx=>e=.returned (.bool true)/\Below w.heap.size w wx:=by
 go_enter Tryz.func112,Tryz.ntmps112;go_wp2;go_ret;exact⟨rfl,((Below.refl _ _).alloc (Nat.le_refl _) _).alloc (by simp) _⟩
def vC(x:VV):Nat->Value
 |0=>.int .i64 (x).k
 |1=>.bool (x).s
 |2=>.int .i64 (x).m
 |3=>.int .i64 (x).h
 |4=>.int .i64 (x).lo
 |_=>.int .i64 (x).hi
def vF(V:Nat->VV)(i:Nat):Value:=vC (V (i/6)) (i%6)
theorem vF_at(V:Nat->VV)(k j:Nat)(hj:j<6):vF V (k*6+j)=vC (V k) j:=by
 unfold vF;rw[show(k*6+j)/6=k by omega,show(k*6+j)%6=j by omega]
theorem eqValS_same (b off len cap b' off' cap' : Nat) (V : Nat → VV) (w : World) (hlen : len ≤ 1048576) (hat : At w b off (len * 6) (vF V)) (hat' : At w b' off' (len * 6) (vF V)) :
    Calls Tryz.prog 71 #[.slice (some ⟨b, off, none⟩) len cap, .slice (some ⟨b', off', none⟩) len cap'] w fun e w' => e = .returned (.bool true) ∧ Below w.heap.size w w' := by
  have hb := hat.lt
  have hb' := hat'.lt
  have HA : Hid (At w b off (len * 6) (vF V)) := hat
  have HA' : Hid (At w b' off' (len * 6) (vF V)) := hat'
  clear hat hat'
  go_enter Tryz.func71, Tryz.ntmps71
  go_wp2
  go_loopw [5] (fun i wr => ∃ k : Nat, k ≤ len ∧ i = .int .i64 k ∧ Below w.heap.size w wr) (fun i _ => len - (intOf i).toNat)
  case atStart => exact ⟨0, Nat.zero_le _, rfl, Below.refl _ _⟩
  case round =>
    obtain ⟨k, hk, rfl, hbr⟩ := hrel
    by_cases hlt : k < len
    · skip
      have g0 := (hbr.cell (p := ⟨b, off + k * 6, none⟩) hb).trans (HA.out.cell (i := k * 6 + 0) (by omega) |>.trans (congrArg some (vF_at V k 0 (by omega))))
      have g1 := (hbr.cell (p := ⟨b, off + k * 6 + 1, none⟩) hb).trans (HA.out.cell (i := k * 6 + 1) (by omega) |>.trans (congrArg some (vF_at V k 1 (by omega))))
      have g2 := (hbr.cell (p := ⟨b, off + k * 6 + 2, none⟩) hb).trans (HA.out.cell (i := k * 6 + 2) (by omega) |>.trans (congrArg some (vF_at V k 2 (by omega))))
      have g3 := (hbr.cell (p := ⟨b, off + k * 6 + 3, none⟩) hb).trans (HA.out.cell (i := k * 6 + 3) (by omega) |>.trans (congrArg some (vF_at V k 3 (by omega))))
      have g4 := (hbr.cell (p := ⟨b, off + k * 6 + 4, none⟩) hb).trans (HA.out.cell (i := k * 6 + 4) (by omega) |>.trans (congrArg some (vF_at V k 4 (by omega))))
      have g5 := (hbr.cell (p := ⟨b, off + k * 6 + 5, none⟩) hb).trans (HA.out.cell (i := k * 6 + 5) (by omega) |>.trans (congrArg some (vF_at V k 5 (by omega))))
      have q0 := (hbr.cell (p := ⟨b', off' + k * 6, none⟩) hb').trans (HA'.out.cell (i := k * 6 + 0) (by omega) |>.trans (congrArg some (vF_at V k 0 (by omega))))
      have q1 := (hbr.cell (p := ⟨b', off' + k * 6 + 1, none⟩) hb').trans (HA'.out.cell (i := k * 6 + 1) (by omega) |>.trans (congrArg some (vF_at V k 1 (by omega))))
      have q2 := (hbr.cell (p := ⟨b', off' + k * 6 + 2, none⟩) hb').trans (HA'.out.cell (i := k * 6 + 2) (by omega) |>.trans (congrArg some (vF_at V k 2 (by omega))))
      have q3 := (hbr.cell (p := ⟨b', off' + k * 6 + 3, none⟩) hb').trans (HA'.out.cell (i := k * 6 + 3) (by omega) |>.trans (congrArg some (vF_at V k 3 (by omega))))
      have q4 := (hbr.cell (p := ⟨b', off' + k * 6 + 4, none⟩) hb').trans (HA'.out.cell (i := k * 6 + 4) (by omega) |>.trans (congrArg some (vF_at V k 4 (by omega))))
      have q5 := (hbr.cell (p := ⟨b', off' + k * 6 + 5, none⟩) hb').trans (HA'.out.cell (i := k * 6 + 5) (by omega) |>.trans (congrArg some (vF_at V k 5 (by omega))))
      simp only [vC] at g0 g1 g2 g3 g4 g5 q0 q1 q2 q3 q4 q5
      have hlt' : (k : Int) < (len : Int) := by omega
      go_wp2_with fail
      go_region_with (go_at_call 113; refine (eqVal_same _ _ _ _ _ _ _).mono ?_; rintro e w' ⟨rfl, hb2⟩)
      all_goals
        clear g0 g1 g2 g3 g4 g5 q0 q1 q2 q3 q4 q5
        go_wp2
        go_roundw
        case rel => exact ⟨k + 1, by omega, by go_num, hbr.drew.trans (hb2.mono hbr.size)⟩
        case measure => simp [intOf]; omega
    · go_wp2
      go_ret
      exact ⟨rfl, hbr⟩
def hsC(x:HS):Nat->Value
 |0=>.int .i64 (x).size
 |1=>.bool (x).s
 |_=>.bool (x).w
def hsF(V:Nat->HS)(i:Nat):Value:=hsC (V (i/3)) (i%3)
theorem hsF_at(V:Nat->HS)(k j:Nat)(hj:j<3):hsF V (k*3+j)=hsC (V k) j:=by
 unfold hsF;rw[show(k*3+j)/3=k by omega,show(k*3+j)%3=j by omega]
theorem eqHeapSigS_same(b off len cap b' off' cap':Nat)(V:Nat->HS)(w:World)(hlen:len<=1048576)(hat:At w b off (len*3) (hsF V))(hat':At w b' off' (len*3) (hsF V)):
 Calls Tryz.prog 70 #[.slice (some ⟨b,off,none⟩) len cap,.slice (some ⟨b',off',none⟩) len cap'] w fun e w'=>e=.returned (.bool true)/\Below w.heap.size w w':=by
 have hb:=hat.lt;have hb':=hat'.lt;have HA:Hid (At w b off (len*3) (hsF V)):=hat;have HA':Hid (At w b' off' (len*3) (hsF V)):=hat';clear hat hat';go_enter Tryz.func70,Tryz.ntmps70;go_wp2;go_loopw [5](fun i wr=>∃k:Nat,k<=len/\i=.int .i64 k/\Below w.heap.size w wr)(fun i _=>len-(intOf i).toNat)
 case atStart=>exact⟨0,Nat.zero_le _,rfl,Below.refl _ _⟩
 case round=>
  obtain⟨k,hk,rfl,hbr⟩:=hrel;by_cases hlt:k<len
  ·skip
   have g0:=(hbr.cell (p:=⟨b,off+k*3,none⟩) hb).trans (HA.out.cell (i:=k*3+0) (by omega) |>.trans (congrArg some (hsF_at V k 0 (by omega))));have g1:=(hbr.cell (p:=⟨b,off+k*3+1,none⟩) hb).trans (HA.out.cell (i:=k*3+1) (by omega) |>.trans (congrArg some (hsF_at V k 1 (by omega))));have g2:=(hbr.cell (p:=⟨b,off+k*3+2,none⟩) hb).trans (HA.out.cell (i:=k*3+2) (by omega) |>.trans (congrArg some (hsF_at V k 2 (by omega))));have q0:=(hbr.cell (p:=⟨b',off'+k*3,none⟩) hb').trans (HA'.out.cell (i:=k*3+0) (by omega) |>.trans (congrArg some (hsF_at V k 0 (by omega))));have q1:=(hbr.cell (p:=⟨b',off'+k*3+1,none⟩) hb').trans (HA'.out.cell (i:=k*3+1) (by omega) |>.trans (congrArg some (hsF_at V k 1 (by omega))));have q2:=(hbr.cell (p:=⟨b',off'+k*3+2,none⟩) hb').trans (HA'.out.cell (i:=k*3+2) (by omega) |>.trans (congrArg some (hsF_at V k 2 (by omega))));simp only[hsC]at g0 g1 g2 q0 q1 q2;have hlt':(k:Int)<(len:Int):=by omega
   go_wp2_with fail;go_region_with(go_at_call 112;refine(eqHeapSig_same _ _ _ _).mono ?_;rintro e w'⟨rfl,hb2⟩);all_goals
    clear g0 g1 g2 q0 q1 q2;go_wp2;go_roundw
    case rel=>exact⟨k+1,by omega,by go_num,hbr.drew.trans (hb2.mono hbr.size)⟩
    case measure=>simp[intOf];omega
  ·go_wp2
   go_ret;exact⟨rfl,hbr⟩
end Go.Proofs.YtblfmpgdhpbffaaGreatDoor
