import Derived.Test.YtiphbmhoifggiaaGreatDoorRows
import Derived.Test.YtiphbmhoifggiaaGreatDoorOfRegT
import Derived.WalkKit
import Derived.WalkSpells
import Derived.WalkLawsBesides
import Derived.Test.YtiphbmhoifggiaaGreatDoorOpenRow
import Derived.Deep.QuietTactic
import Derived.BigQuiet
import Derived.Deep.RegionWith
import Derived.BigRegion
import Derived.Test.YtiphbmhoifggiaaGreatDoorInsMath
set_option maxHeartbeats 4000000
set_option maxRecDepth 100000
namespace Go.Proofs.YtiphbmhoifggiaaGreatDoor
open Go.RowKit
structure VV where
 k:Int
 s:Bool
 m:Int
 h:Int
 lo:Int
 hi:Int
theorem toVal_any(k:Int)(s:Bool)(m h lo hi:Int)(w:World):
 Calls Tryz.prog 69 #[.agg #[.int .i64 k,.bool s,.int .i64 m,.int .i64 h,.int .i64 lo,.int .i64 hi]] w fun e w'=>e=.returned (.agg #[.int .i64 k,.bool s,.int .i64 m,.int .i64 h,.int .i64 lo,.int .i64 hi])/\Below w.heap.size w w':=by
 go_enter Tryz.func69,Tryz.ntmps69;go_wp2;exact bodyPost_ret (v:=.agg #[.int .i64 k,.bool s,.int .i64 m,.int .i64 h,.int .i64 lo,.int .i64 hi]) (by simp[results,Tryz.results69,go_sem]) rfl ⟨rfl,(((Below.refl _ _).alloc (Nat.le_refl _) _).alloc (by simp) _).alloc (by simp;omega) _⟩
theorem eqVal_same(k:Int)(s:Bool)(m h lo hi:Int)(w:World):
 Calls Tryz.prog 85 #[.agg #[.int .i64 k,.bool s,.int .i64 m,.int .i64 h,.int .i64 lo,.int .i64 hi],.agg #[.int .i64 k,.bool s,.int .i64 m,.int .i64 h,.int .i64 lo,.int .i64 hi]] w fun e w'=>e=.returned (.bool true)/\Below w.heap.size w w':=by
 go_enter Tryz.func85,Tryz.ntmps85;go_wp2;go_ret;exact⟨rfl,((Below.refl _ _).alloc (Nat.le_refl _) _).alloc (by simp) _⟩
end Go.Proofs.YtiphbmhoifggiaaGreatDoor
namespace Go.Proofs.YtiphbmhoifggiaaGreatDoor
open Go.ChangeShapes Go.WideShapes Go.ChangeAt Go.RowKit Go.Deep
theorem cellsLVal:Tryz.prog.cellsOf 143=6:=by kernel_rfl
theorem cellsLHS:Tryz.prog.cellsOf 141=3:=by kernel_rfl
theorem v_cellsI64:Tryz.prog.cellsOf 2=1:=by kernel_rfl
theorem v_cellsBool:Tryz.prog.cellsOf 4=1:=by kernel_rfl
theorem val_cells{H:Type}{enc:TypeId×Value->H}{w:World}{base:Nat}{spare:Nat->Bool}{held:Bool}{fuel:Nat}{cs:List Value}{x:DataW H×List MemPlace}
 (h:DataW.trod enc Tryz.prog w base spare held fuel 143 cs=some x):
 ∃v:VV,cs=[.int .i64 v.k,.bool v.s,.int .i64 v.m,.int .i64 v.h,.int .i64 v.lo,.int .i64 v.hi]:=by
 obtain⟨xs,n,_,_,hl,hlen,hf⟩:=DataW.trod_struct Tryz.underlying143 h;rw[cellsLVal]at hl;match cs,hl with
 |[c0,c1,c2,c3,c4,c5],_=>
  match xs,hlen with
  |[y0,y1,y2,y3,y4,y5],_=>
   have h0:=hf 0 _ rfl;have h1:=hf 1 _ rfl;have h2:=hf 2 _ rfl;have h3:=hf 3 _ rfl;have h4:=hf 4 _ rfl;have h5:=hf 5 _ rfl;simp[v_cellsI64,v_cellsBool]at h0 h1 h2 h3 h4 h5;obtain⟨n0,e0,_,_⟩:=DataW.trod_int Tryz.underlying2 h0;obtain⟨n1,e1,_⟩:=DataW.trod_bool Tryz.underlying4 h1;obtain⟨n2,e2,_,_⟩:=DataW.trod_int Tryz.underlying2 h2;obtain⟨n3,e3,_,_⟩:=DataW.trod_int Tryz.underlying2 h3;obtain⟨n4,e4,_,_⟩:=DataW.trod_int Tryz.underlying2 h4;obtain⟨n5,e5,_,_⟩:=DataW.trod_int Tryz.underlying2 h5;simp at e0 e1 e2 e3 e4 e5;subst e0 e1 e2 e3 e4 e5;exact⟨⟨n0,n1,n2,n3,n4,n5⟩,rfl⟩
structure HS where
 size:Int
 s:Bool
 w:Bool
theorem hs_cells{H:Type}{enc:TypeId×Value->H}{w:World}{base:Nat}{spare:Nat->Bool}{held:Bool}{fuel:Nat}{cs:List Value}{x:DataW H×List MemPlace}
 (h:DataW.trod enc Tryz.prog w base spare held fuel 141 cs=some x):
 ∃v:HS,cs=[.int .i64 v.size,.bool v.s,.bool v.w]:=by
 obtain⟨xs,n,_,_,hl,hlen,hf⟩:=DataW.trod_struct Tryz.underlying141 h;rw[cellsLHS]at hl;match cs,hl with
 |[c0,c1,c2],_=>
  match xs,hlen with
  |[y0,y1,y2],_=>
   have h0:=hf 0 _ rfl;have h1:=hf 1 _ rfl;have h2:=hf 2 _ rfl;simp[v_cellsI64,v_cellsBool]at h0 h1 h2;obtain⟨n0,e0,_,_⟩:=DataW.trod_int Tryz.underlying2 h0;obtain⟨n1,e1,_⟩:=DataW.trod_bool Tryz.underlying4 h1;obtain⟨n2,e2,_⟩:=DataW.trod_bool Tryz.underlying4 h2;simp at e0 e1 e2;subst e0 e1 e2;exact⟨⟨n0,n1,n2⟩,rfl⟩
end Go.Proofs.YtiphbmhoifggiaaGreatDoor
namespace Go.Proofs.YtiphbmhoifggiaaGreatDoor
open Go.RowKit
theorem toHeapSig_any(size:Int)(s w':Bool)(w:World):
 Calls Tryz.prog 68 #[.agg #[.int .i64 size,.bool s,.bool w']] w fun e wx=>e=.returned (.agg #[.int .i64 size,.bool s,.bool w'])/\Below w.heap.size w wx:=by
 go_enter Tryz.func68,Tryz.ntmps68;go_wp2;exact bodyPost_ret (v:=.agg #[.int .i64 size,.bool s,.bool w']) (by simp[results,Tryz.results68,go_sem]) rfl ⟨rfl,(((Below.refl _ _).alloc (Nat.le_refl _) _).alloc (by simp) _).alloc (by simp;omega) _⟩
theorem eqHeapSig_same(size:Int)(s w':Bool)(w:World):
 Calls Tryz.prog 84 #[.agg #[.int .i64 size,.bool s,.bool w'],.agg #[.int .i64 size,.bool s,.bool w']] w fun e wx=>e=.returned (.bool true)/\Below w.heap.size w wx:=by
 go_enter Tryz.func84,Tryz.ntmps84;go_wp2;go_ret;exact⟨rfl,((Below.refl _ _).alloc (Nat.le_refl _) _).alloc (by simp) _⟩
theorem info_iVal:(Tryz.prog.info? 57).map (fun i=>(i.zero,i.size,i.bytes))=some (some (.agg #[.int .i64 0,.bool false,.int .i64 0,.int .i64 0,.int .i64 0,.int .i64 0]),6,48):=by kernel_rfl
def vC(x:VV):Nat->Value
 |0=>.int .i64 (x).k
 |1=>.bool (x).s
 |2=>.int .i64 (x).m
 |3=>.int .i64 (x).h
 |4=>.int .i64 (x).lo
 |_=>.int .i64 (x).hi
def vF(V:Nat->VV)(i:Nat):Value:=vC (V (i/6)) (i%6)
def vZ(i:Nat):Value:=(#[Value.int .i64 0,Value.bool false,Value.int .i64 0,Value.int .i64 0,Value.int .i64 0,Value.int .i64 0]:Array Value)[i%6]!
def vTo(V:Nat->VV)(k i:Nat):Value:=if i<k*6 then vC (V (i/6)) (i%6)else vZ i
theorem vF_at(V:Nat->VV)(k j:Nat)(hj:j<6):vF V (k*6+j)=vC (V k) j:=by
 unfold vF;rw[show(k*6+j)/6=k by omega,show(k*6+j)%6=j by omega]
theorem vTo_step(V:Nat->VV)(k i:Nat):(if k*6<=i/\i<k*6+[Value.int .i64 (V k).k,Value.bool (V k).s,Value.int .i64 (V k).m,Value.int .i64 (V k).h,Value.int .i64 (V k).lo,Value.int .i64 (V k).hi].length then[Value.int .i64 (V k).k,Value.bool (V k).s,Value.int .i64 (V k).m,Value.int .i64 (V k).h,Value.int .i64 (V k).lo,Value.int .i64 (V k).hi].getD (i-k*6) undef else vTo V k i)=vTo V (k+1) i:=by
 by_cases h:k*6<=i/\i<k*6+6
 ·obtain⟨j,rfl⟩:∃j,i=k*6+j:=⟨i-k*6,by omega⟩
  have hj:j<6:=by omega
  simp only[List.length_cons,List.length_nil,h];unfold vTo;rw[show(k*6+j)/6=k by omega,show(k*6+j)%6=j by omega,if_pos (by omega:k*6+j<(k+1)*6),show k*6+j-k*6=j by omega];match j,hj with
  |0,_=>simp[vC]
  |1,_=>simp[vC]
  |2,_=>simp[vC]
  |3,_=>simp[vC]
  |4,_=>simp[vC]
  |5,_=>simp[vC]
 ·simp only[List.length_cons,List.length_nil]
  rw[if_neg (by omega)];unfold vTo;by_cases g:i<k*6
  ·rw[if_pos g,if_pos (by omega)]
  ·rw[if_neg g,if_neg (by omega)]
theorem v_stores(w:World)(b k:Nat)(V:Nat->VV):((((((w.setCell ⟨b,k*6,none⟩ (.int .i64 (V k).k)).setCell ⟨b,k*6+1,none⟩ (.bool (V k).s)).setCell ⟨b,k*6+2,none⟩ (.int .i64 (V k).m)).setCell ⟨b,k*6+3,none⟩ (.int .i64 (V k).h)).setCell ⟨b,k*6+4,none⟩ (.int .i64 (V k).lo)).setCell ⟨b,k*6+5,none⟩ (.int .i64 (V k).hi))=w.setCells b (k*6) [Value.int .i64 (V k).k,Value.bool (V k).s,Value.int .i64 (V k).m,Value.int .i64 (V k).h,Value.int .i64 (V k).lo,Value.int .i64 (V k).hi]:=rfl
theorem toVal_round{w w2 w3:World}{k len:Nat}{V:Nat->VV}(hlt:k<len)(hb:Below w.heap.size w w2)(ha:Arr w2 w.heap.size (len*6) (vTo V k))(hb2:Below w2.heap.size w2 w3):
 Below w.heap.size w (w3.setCells w.heap.size (k*6) [Value.int .i64 (V k).k,Value.bool (V k).s,Value.int .i64 (V k).m,Value.int .i64 (V k).h,Value.int .i64 (V k).lo,Value.int .i64 (V k).hi])/\Arr (w3.setCells w.heap.size (k*6) [Value.int .i64 (V k).k,Value.bool (V k).s,Value.int .i64 (V k).m,Value.int .i64 (V k).h,Value.int .i64 (V k).lo,Value.int .i64 (V k).hi]) w.heap.size (len*6) (vTo V (k+1)):=
 ⟨below_setCells (Nat.le_refl _) _ _ (hb.trans (hb2.mono (Nat.le_of_lt ha.lt))),((ha.below hb2 ha.lt).setCells _ _ (by simp;omega)).congr fun i _=>vTo_step V k i⟩
theorem v_zero (V : Nat -> VV) (i : Nat) : ((Value.agg #[.int .i64 0, .bool false, .int .i64 0, .int .i64 0, .int .i64 0, .int .i64 0]).cells)[i % ((Value.agg #[.int .i64 0, .bool false, .int .i64 0, .int .i64 0, .int .i64 0, .int .i64 0]).cells).size]! = vTo V 0 i := by
 unfold vTo; rw [if_neg (by omega)]; rfl
theorem toValS_at(b off len cap:Nat)(V:Nat->VV)(w:World)(hlen:len<=1048576)(hat:At w b off (len*6) (vF V)):
 Calls Tryz.prog 46 #[.slice (some ⟨b,off,none⟩) len cap] w fun e w'=>e=.returned (.slice (some ⟨w.heap.size,0,none⟩) len len)/\Below w.heap.size w w'/\Arr w' w.heap.size (len*6) (vF V):=by
 obtain⟨i0,hi,hz0,hz1,hz2⟩:=info_parts info_iVal;have hb:=hat.lt;have HA:Hid (At w b off (len*6) (vF V)):=hat;clear hat;go_enter Tryz.func46,Tryz.ntmps46;go_wp2_with(first|(at_make;refine wpList_make_full _ rfl _ _ 33 rfl w.heap.size 57 i0 _ 6 Tryz.underlying33 hi hz0 hz1 .i64 .i64 _ _ len rfl rfl ?c1 ?c2 ?c3 ?c4 ?c5 ?_)|go_in)
 case c1=>rfl
 case c2=>rfl
 case c3=>rw[hz2];omega
 case c4=>unfold maxLen;omega
 case c5=>exact Nat.le_refl _
 ·intro w1 hown hgrow
  have hbel:Below w.heap.size w w1:=(Below.refl _ _).grown hgrow (Nat.le_refl _) (by intro k hk;cases hk);have harr:Arr w1 w.heap.size (len*6) (vTo V 0):=Arr.made hown fun i hi=>by
   rw[made_get _ _ _ hi];exact congrArg some (v_zero V i)
  clear hown hgrow hi hz0 hz1 hz2;go_wp2;go_loopw [4](fun i wr=>∃k:Nat,k<=len/\i=.int .i64 k/\Below w.heap.size w wr/\Arr wr w.heap.size (len*6) (vTo V k))(fun i _=>len-(intOf i).toNat)
  case atStart=>exact⟨0,Nat.zero_le _,rfl,hbel,harr⟩
  case round=>
   clear harr hbel;obtain⟨k,hk,rfl,hbr,har⟩:=hrel;have HAR:Hid (Arr wr w.heap.size (len*6) (vTo V k)):=har;have hzr:=har.lt;clear har;by_cases hlt:k<len
   ·skip
    have g0:=(hbr.cell (p:=⟨b,off+k*6,none⟩) hb).trans (HA.out.cell (i:=k*6+0) (by omega) |>.trans (congrArg some (vF_at V k 0 (by omega))));have g1:=(hbr.cell (p:=⟨b,off+k*6+1,none⟩) hb).trans (HA.out.cell (i:=k*6+1) (by omega) |>.trans (congrArg some (vF_at V k 1 (by omega))));have g2:=(hbr.cell (p:=⟨b,off+k*6+2,none⟩) hb).trans (HA.out.cell (i:=k*6+2) (by omega) |>.trans (congrArg some (vF_at V k 2 (by omega))));have g3:=(hbr.cell (p:=⟨b,off+k*6+3,none⟩) hb).trans (HA.out.cell (i:=k*6+3) (by omega) |>.trans (congrArg some (vF_at V k 3 (by omega))));have g4:=(hbr.cell (p:=⟨b,off+k*6+4,none⟩) hb).trans (HA.out.cell (i:=k*6+4) (by omega) |>.trans (congrArg some (vF_at V k 4 (by omega))));have g5:=(hbr.cell (p:=⟨b,off+k*6+5,none⟩) hb).trans (HA.out.cell (i:=k*6+5) (by omega) |>.trans (congrArg some (vF_at V k 5 (by omega))));simp only[vC]at g0 g1 g2 g3 g4 g5;go_wp2_with fail;refine(toVal_any _ _ _ _ _ _ _).mono ?_;rintro e w2⟨rfl,hb2⟩;clear g0 g1 g2 g3 g4 g5;have R:=toVal_round hlt hbr HAR.out hb2;have A2:=HAR.out.below hb2 hzr;have f2:=A2.free;have c0:=A2.cell (i:=k*6) (by omega);have c1:=A2.cell (i:=k*6+1) (by omega);have c2:=A2.cell (i:=k*6+2) (by omega);have c3:=A2.cell (i:=k*6+3) (by omega);have c4:=A2.cell (i:=k*6+4) (by omega);have c5:=A2.cell (i:=k*6+5) (by omega);have HR:Hid _:=R;clear R A2;go_wp2;go_roundw
    case rel=>rw[v_stores];exact⟨k+1,by omega,by go_num,HR.out.1,HR.out.2⟩
    case measure=>simp[intOf];omega
   ·go_wp2
    go_ret;have:k=len:=by omega
    subst this;exact⟨rfl,hbr,HAR.out.congr fun i hi=>by unfold vTo vF;rw[if_pos hi]⟩
theorem toValS_nil(ao:Option Addr)(cap:Nat)(V:Nat->VV)(w:World):
 Calls Tryz.prog 46 #[.slice ao 0 cap] w fun e w'=>e=.returned (.slice (some ⟨w.heap.size,0,none⟩) 0 0)/\Below w.heap.size w w'/\Arr w' w.heap.size (0*6) (vF V):=by
 obtain⟨i0,hi,hz0,hz1,hz2⟩:=info_parts info_iVal;go_enter Tryz.func46,Tryz.ntmps46;go_wp2_with(first|(at_make;refine wpList_make_full _ rfl _ _ 33 rfl w.heap.size 57 i0 _ 6 Tryz.underlying33 hi hz0 hz1 .i64 .i64 _ _ 0 rfl rfl ?c1 ?c2 ?c3 ?c4 ?c5 ?_)|go_in)
 case c1=>rfl
 case c2=>rfl
 case c3=>rw[hz2];omega
 case c4=>unfold maxLen;omega
 case c5=>exact Nat.le_refl _
 ·intro w1 hown hgrow
  have hbel:Below w.heap.size w w1:=(Below.refl _ _).grown hgrow (Nat.le_refl _) (by intro k hk;cases hk);have harr:Arr w1 w.heap.size (0*6) (vF V):=Arr.made hown fun i hi=>by omega
  have HX:Hid (Below w.heap.size w w1/\Arr w1 w.heap.size (0*6) (vF V)):=⟨hbel,harr⟩
  clear hown hgrow hi hz0 hz1 hz2 hbel harr;go_wp2;refine wp_loop_rounds 1 ?_;rw[rounds_succ];go_wp2;go_ret;exact⟨rfl,HX.out.1,HX.out.2⟩
theorem toValS_in(ao:Option Addr)(len cap:Nat)(V:Nat->VV)(w:World)(hlen:len<=1048576)(h:InRow w ao (len*6) (vF V)):
 Calls Tryz.prog 46 #[.slice ao len cap] w fun e w'=>e=.returned (.slice (some ⟨w.heap.size,0,none⟩) len len)/\Below w.heap.size w w'/\Arr w' w.heap.size (len*6) (vF V):=by
 rcases h with h|⟨b,off,rfl,h⟩
 ·obtain rfl:len=0:=by omega
  exact toValS_nil ao cap V w
 ·exact toValS_at b off len cap V w hlen h
theorem eqValS_same (b off len cap b' off' cap' : Nat) (V : Nat → VV) (w : World) (hlen : len ≤ 1048576) (hat : At w b off (len * 6) (vF V)) (hat' : At w b' off' (len * 6) (vF V)) :
    Calls Tryz.prog 58 #[.slice (some ⟨b, off, none⟩) len cap, .slice (some ⟨b', off', none⟩) len cap'] w fun e w' => e = .returned (.bool true) ∧ Below w.heap.size w w' := by
  have hb := hat.lt
  have hb' := hat'.lt
  have HA : Hid (At w b off (len * 6) (vF V)) := hat
  have HA' : Hid (At w b' off' (len * 6) (vF V)) := hat'
  clear hat hat'
  go_enter Tryz.func58, Tryz.ntmps58
  go_wp2
  go_loopw [5] (fun i wr => ∃ k : Nat, k ≤ len ∧ i = .int .i64 k ∧ Below w.heap.size w wr) (fun i _ => len - (intOf i).toNat)
  case atStart => exact ⟨0, Nat.zero_le _, rfl, Below.refl _ _⟩
  case round =>
    obtain ⟨k, hk, rfl, hbr⟩ := hrel
    by_cases hlt : k < len
    · skip
      have g0 := (hbr.cell (p := ⟨b, off + k * 6, none⟩) hb).trans (HA.out.cell (i := k * 6 + 0) (by omega) |>.trans (congrArg some (vF_at V k 0 (by omega))))
      have g1 := (hbr.cell (p := ⟨b, off + k * 6 + 1, none⟩) hb).trans (HA.out.cell (i := k * 6 + 1) (by omega) |>.trans (congrArg some (vF_at V k 1 (by omega))))
      have g2 := (hbr.cell (p := ⟨b, off + k * 6 + 2, none⟩) hb).trans (HA.out.cell (i := k * 6 + 2) (by omega) |>.trans (congrArg some (vF_at V k 2 (by omega))))
      have g3 := (hbr.cell (p := ⟨b, off + k * 6 + 3, none⟩) hb).trans (HA.out.cell (i := k * 6 + 3) (by omega) |>.trans (congrArg some (vF_at V k 3 (by omega))))
      have g4 := (hbr.cell (p := ⟨b, off + k * 6 + 4, none⟩) hb).trans (HA.out.cell (i := k * 6 + 4) (by omega) |>.trans (congrArg some (vF_at V k 4 (by omega))))
      have g5 := (hbr.cell (p := ⟨b, off + k * 6 + 5, none⟩) hb).trans (HA.out.cell (i := k * 6 + 5) (by omega) |>.trans (congrArg some (vF_at V k 5 (by omega))))
      have q0 := (hbr.cell (p := ⟨b', off' + k * 6, none⟩) hb').trans (HA'.out.cell (i := k * 6 + 0) (by omega) |>.trans (congrArg some (vF_at V k 0 (by omega))))
      have q1 := (hbr.cell (p := ⟨b', off' + k * 6 + 1, none⟩) hb').trans (HA'.out.cell (i := k * 6 + 1) (by omega) |>.trans (congrArg some (vF_at V k 1 (by omega))))
      have q2 := (hbr.cell (p := ⟨b', off' + k * 6 + 2, none⟩) hb').trans (HA'.out.cell (i := k * 6 + 2) (by omega) |>.trans (congrArg some (vF_at V k 2 (by omega))))
      have q3 := (hbr.cell (p := ⟨b', off' + k * 6 + 3, none⟩) hb').trans (HA'.out.cell (i := k * 6 + 3) (by omega) |>.trans (congrArg some (vF_at V k 3 (by omega))))
      have q4 := (hbr.cell (p := ⟨b', off' + k * 6 + 4, none⟩) hb').trans (HA'.out.cell (i := k * 6 + 4) (by omega) |>.trans (congrArg some (vF_at V k 4 (by omega))))
      have q5 := (hbr.cell (p := ⟨b', off' + k * 6 + 5, none⟩) hb').trans (HA'.out.cell (i := k * 6 + 5) (by omega) |>.trans (congrArg some (vF_at V k 5 (by omega))))
      simp only [vC] at g0 g1 g2 g3 g4 g5 q0 q1 q2 q3 q4 q5
      have hlt' : (k : Int) < (len : Int) := by omega
      go_wp2_with fail
      go_region_with (go_at_call 85; refine (eqVal_same _ _ _ _ _ _ _).mono ?_; rintro e w' ⟨rfl, hb2⟩)
      all_goals
        clear g0 g1 g2 g3 g4 g5 q0 q1 q2 q3 q4 q5
        go_wp2
        go_roundw
        case rel => exact ⟨k + 1, by omega, by go_num, hbr.drew.trans (hb2.mono hbr.size)⟩
        case measure => simp [intOf]; omega
    · go_wp2
      go_ret
      exact ⟨rfl, hbr⟩
theorem info_iHeapSig:(Tryz.prog.info? 53).map (fun i=>(i.zero,i.size,i.bytes))=some (some (.agg #[.int .i64 0,.bool false,.bool false]),3,16):=by kernel_rfl
def hsC(x:HS):Nat->Value
 |0=>.int .i64 (x).size
 |1=>.bool (x).s
 |_=>.bool (x).w
def hsF(V:Nat->HS)(i:Nat):Value:=hsC (V (i/3)) (i%3)
def hsZ(i:Nat):Value:=(#[Value.int .i64 0,Value.bool false,Value.bool false]:Array Value)[i%3]!
def hsTo(V:Nat->HS)(k i:Nat):Value:=if i<k*3 then hsC (V (i/3)) (i%3)else hsZ i
theorem hsF_at(V:Nat->HS)(k j:Nat)(hj:j<3):hsF V (k*3+j)=hsC (V k) j:=by
 unfold hsF;rw[show(k*3+j)/3=k by omega,show(k*3+j)%3=j by omega]
theorem hsTo_step(V:Nat->HS)(k i:Nat):(if k*3<=i/\i<k*3+[Value.int .i64 (V k).size,Value.bool (V k).s,Value.bool (V k).w].length then[Value.int .i64 (V k).size,Value.bool (V k).s,Value.bool (V k).w].getD (i-k*3) undef else hsTo V k i)=hsTo V (k+1) i:=by
 by_cases h:k*3<=i/\i<k*3+3
 ·obtain⟨j,rfl⟩:∃j,i=k*3+j:=⟨i-k*3,by omega⟩
  have hj:j<3:=by omega
  simp only[List.length_cons,List.length_nil,h];unfold hsTo;rw[show(k*3+j)/3=k by omega,show(k*3+j)%3=j by omega,if_pos (by omega:k*3+j<(k+1)*3),show k*3+j-k*3=j by omega];match j,hj with
  |0,_=>simp[hsC]
  |1,_=>simp[hsC]
  |2,_=>simp[hsC]
 ·simp only[List.length_cons,List.length_nil]
  rw[if_neg (by omega)];unfold hsTo;by_cases g:i<k*3
  ·rw[if_pos g,if_pos (by omega)]
  ·rw[if_neg g,if_neg (by omega)]
theorem hs_stores(w:World)(b k:Nat)(V:Nat->HS):(((w.setCell ⟨b,k*3,none⟩ (.int .i64 (V k).size)).setCell ⟨b,k*3+1,none⟩ (.bool (V k).s)).setCell ⟨b,k*3+2,none⟩ (.bool (V k).w))=w.setCells b (k*3) [Value.int .i64 (V k).size,Value.bool (V k).s,Value.bool (V k).w]:=rfl
theorem toHeapSig_round{w w2 w3:World}{k len:Nat}{V:Nat->HS}(hlt:k<len)(hb:Below w.heap.size w w2)(ha:Arr w2 w.heap.size (len*3) (hsTo V k))(hb2:Below w2.heap.size w2 w3):
 Below w.heap.size w (w3.setCells w.heap.size (k*3) [Value.int .i64 (V k).size,Value.bool (V k).s,Value.bool (V k).w])/\Arr (w3.setCells w.heap.size (k*3) [Value.int .i64 (V k).size,Value.bool (V k).s,Value.bool (V k).w]) w.heap.size (len*3) (hsTo V (k+1)):=
 ⟨below_setCells (Nat.le_refl _) _ _ (hb.trans (hb2.mono (Nat.le_of_lt ha.lt))),((ha.below hb2 ha.lt).setCells _ _ (by simp;omega)).congr fun i _=>hsTo_step V k i⟩
theorem hs_zero (V : Nat -> HS) (i : Nat) : ((Value.agg #[.int .i64 0, .bool false, .bool false]).cells)[i % ((Value.agg #[.int .i64 0, .bool false, .bool false]).cells).size]! = hsTo V 0 i := by
 unfold hsTo; rw [if_neg (by omega)]; rfl
theorem toHeapSigS_at(b off len cap:Nat)(V:Nat->HS)(w:World)(hlen:len<=1048576)(hat:At w b off (len*3) (hsF V)):
 Calls Tryz.prog 45 #[.slice (some ⟨b,off,none⟩) len cap] w fun e w'=>e=.returned (.slice (some ⟨w.heap.size,0,none⟩) len len)/\Below w.heap.size w w'/\Arr w' w.heap.size (len*3) (hsF V):=by
 obtain⟨i0,hi,hz0,hz1,hz2⟩:=info_parts info_iHeapSig;have hb:=hat.lt;have HA:Hid (At w b off (len*3) (hsF V)):=hat;clear hat;go_enter Tryz.func45,Tryz.ntmps45;go_wp2_with(first|(at_make;refine wpList_make_full _ rfl _ _ 32 rfl w.heap.size 53 i0 _ 3 Tryz.underlying32 hi hz0 hz1 .i64 .i64 _ _ len rfl rfl ?c1 ?c2 ?c3 ?c4 ?c5 ?_)|go_in)
 case c1=>rfl
 case c2=>rfl
 case c3=>rw[hz2];omega
 case c4=>unfold maxLen;omega
 case c5=>exact Nat.le_refl _
 ·intro w1 hown hgrow
  have hbel:Below w.heap.size w w1:=(Below.refl _ _).grown hgrow (Nat.le_refl _) (by intro k hk;cases hk);have harr:Arr w1 w.heap.size (len*3) (hsTo V 0):=Arr.made hown fun i hi=>by
   rw[made_get _ _ _ hi];exact congrArg some (hs_zero V i)
  clear hown hgrow hi hz0 hz1 hz2;go_wp2;go_loopw [4](fun i wr=>∃k:Nat,k<=len/\i=.int .i64 k/\Below w.heap.size w wr/\Arr wr w.heap.size (len*3) (hsTo V k))(fun i _=>len-(intOf i).toNat)
  case atStart=>exact⟨0,Nat.zero_le _,rfl,hbel,harr⟩
  case round=>
   clear harr hbel;obtain⟨k,hk,rfl,hbr,har⟩:=hrel;have HAR:Hid (Arr wr w.heap.size (len*3) (hsTo V k)):=har;have hzr:=har.lt;clear har;by_cases hlt:k<len
   ·skip
    have g0:=(hbr.cell (p:=⟨b,off+k*3,none⟩) hb).trans (HA.out.cell (i:=k*3+0) (by omega) |>.trans (congrArg some (hsF_at V k 0 (by omega))));have g1:=(hbr.cell (p:=⟨b,off+k*3+1,none⟩) hb).trans (HA.out.cell (i:=k*3+1) (by omega) |>.trans (congrArg some (hsF_at V k 1 (by omega))));have g2:=(hbr.cell (p:=⟨b,off+k*3+2,none⟩) hb).trans (HA.out.cell (i:=k*3+2) (by omega) |>.trans (congrArg some (hsF_at V k 2 (by omega))));simp only[hsC]at g0 g1 g2;go_wp2_with fail;refine(toHeapSig_any _ _ _ _).mono ?_;rintro e w2⟨rfl,hb2⟩;clear g0 g1 g2;have R:=toHeapSig_round hlt hbr HAR.out hb2;have A2:=HAR.out.below hb2 hzr;have f2:=A2.free;have c0:=A2.cell (i:=k*3) (by omega);have c1:=A2.cell (i:=k*3+1) (by omega);have c2:=A2.cell (i:=k*3+2) (by omega);have HR:Hid _:=R;clear R A2;go_wp2;go_roundw
    case rel=>rw[hs_stores];exact⟨k+1,by omega,by go_num,HR.out.1,HR.out.2⟩
    case measure=>simp[intOf];omega
   ·go_wp2
    go_ret;have:k=len:=by omega
    subst this;exact⟨rfl,hbr,HAR.out.congr fun i hi=>by unfold hsTo hsF;rw[if_pos hi]⟩
theorem toHeapSigS_nil(ao:Option Addr)(cap:Nat)(V:Nat->HS)(w:World):
 Calls Tryz.prog 45 #[.slice ao 0 cap] w fun e w'=>e=.returned (.slice (some ⟨w.heap.size,0,none⟩) 0 0)/\Below w.heap.size w w'/\Arr w' w.heap.size (0*3) (hsF V):=by
 obtain⟨i0,hi,hz0,hz1,hz2⟩:=info_parts info_iHeapSig;go_enter Tryz.func45,Tryz.ntmps45;go_wp2_with(first|(at_make;refine wpList_make_full _ rfl _ _ 32 rfl w.heap.size 53 i0 _ 3 Tryz.underlying32 hi hz0 hz1 .i64 .i64 _ _ 0 rfl rfl ?c1 ?c2 ?c3 ?c4 ?c5 ?_)|go_in)
 case c1=>rfl
 case c2=>rfl
 case c3=>rw[hz2];omega
 case c4=>unfold maxLen;omega
 case c5=>exact Nat.le_refl _
 ·intro w1 hown hgrow
  have hbel:Below w.heap.size w w1:=(Below.refl _ _).grown hgrow (Nat.le_refl _) (by intro k hk;cases hk);have harr:Arr w1 w.heap.size (0*3) (hsF V):=Arr.made hown fun i hi=>by omega
  have HX:Hid (Below w.heap.size w w1/\Arr w1 w.heap.size (0*3) (hsF V)):=⟨hbel,harr⟩
  clear hown hgrow hi hz0 hz1 hz2 hbel harr;go_wp2;refine wp_loop_rounds 1 ?_;rw[rounds_succ];go_wp2;go_ret;exact⟨rfl,HX.out.1,HX.out.2⟩
theorem toHeapSigS_in(ao:Option Addr)(len cap:Nat)(V:Nat->HS)(w:World)(hlen:len<=1048576)(h:InRow w ao (len*3) (hsF V)):
 Calls Tryz.prog 45 #[.slice ao len cap] w fun e w'=>e=.returned (.slice (some ⟨w.heap.size,0,none⟩) len len)/\Below w.heap.size w w'/\Arr w' w.heap.size (len*3) (hsF V):=by
 rcases h with h|⟨b,off,rfl,h⟩
 ·obtain rfl:len=0:=by omega
  exact toHeapSigS_nil ao cap V w
 ·exact toHeapSigS_at b off len cap V w hlen h
theorem eqHeapSigS_same(b off len cap b' off' cap':Nat)(V:Nat->HS)(w:World)(hlen:len<=1048576)(hat:At w b off (len*3) (hsF V))(hat':At w b' off' (len*3) (hsF V)):
 Calls Tryz.prog 57 #[.slice (some ⟨b,off,none⟩) len cap,.slice (some ⟨b',off',none⟩) len cap'] w fun e w'=>e=.returned (.bool true)/\Below w.heap.size w w':=by
 have hb:=hat.lt;have hb':=hat'.lt;have HA:Hid (At w b off (len*3) (hsF V)):=hat;have HA':Hid (At w b' off' (len*3) (hsF V)):=hat';clear hat hat';go_enter Tryz.func57,Tryz.ntmps57;go_wp2;go_loopw [5](fun i wr=>∃k:Nat,k<=len/\i=.int .i64 k/\Below w.heap.size w wr)(fun i _=>len-(intOf i).toNat)
 case atStart=>exact⟨0,Nat.zero_le _,rfl,Below.refl _ _⟩
 case round=>
  obtain⟨k,hk,rfl,hbr⟩:=hrel;by_cases hlt:k<len
  ·skip
   have g0:=(hbr.cell (p:=⟨b,off+k*3,none⟩) hb).trans (HA.out.cell (i:=k*3+0) (by omega) |>.trans (congrArg some (hsF_at V k 0 (by omega))));have g1:=(hbr.cell (p:=⟨b,off+k*3+1,none⟩) hb).trans (HA.out.cell (i:=k*3+1) (by omega) |>.trans (congrArg some (hsF_at V k 1 (by omega))));have g2:=(hbr.cell (p:=⟨b,off+k*3+2,none⟩) hb).trans (HA.out.cell (i:=k*3+2) (by omega) |>.trans (congrArg some (hsF_at V k 2 (by omega))));have q0:=(hbr.cell (p:=⟨b',off'+k*3,none⟩) hb').trans (HA'.out.cell (i:=k*3+0) (by omega) |>.trans (congrArg some (hsF_at V k 0 (by omega))));have q1:=(hbr.cell (p:=⟨b',off'+k*3+1,none⟩) hb').trans (HA'.out.cell (i:=k*3+1) (by omega) |>.trans (congrArg some (hsF_at V k 1 (by omega))));have q2:=(hbr.cell (p:=⟨b',off'+k*3+2,none⟩) hb').trans (HA'.out.cell (i:=k*3+2) (by omega) |>.trans (congrArg some (hsF_at V k 2 (by omega))));simp only[hsC]at g0 g1 g2 q0 q1 q2;have hlt':(k:Int)<(len:Int):=by omega
   go_wp2_with fail;go_region_with(go_at_call 84;refine(eqHeapSig_same _ _ _ _).mono ?_;rintro e w'⟨rfl,hb2⟩);all_goals
    clear g0 g1 g2 q0 q1 q2;go_wp2;go_roundw
    case rel=>exact⟨k+1,by omega,by go_num,hbr.drew.trans (hb2.mono hbr.size)⟩
    case measure=>simp[intOf];omega
  ·go_wp2
   go_ret;exact⟨rfl,hbr⟩
def goodB(x:VV)(n:Int):Bool:=
 if x.k=0 then decide (-1<=x.m/\x.m<=1099511627776/\x.h=0/\x.lo=0/\x.hi=0)
 else decide (x.k=1/\x.s=false/\x.m=0/\0<=x.h/\x.h<n/\ -1099511627776<=x.lo/\x.lo<=x.hi/\x.hi<=1099511627776)
theorem v_in_any(x lo hi:Int)(w:World):
 Calls Tryz.prog 15 #[.int .i64 x,.int .i64 lo,.int .i64 hi] w fun e w'=>e=.returned (.bool (decide (lo<=x/\x<=hi)))/\w'=w:=by
 go_enter Tryz.func15,Tryz.ntmps15;go_wp2;all_goals(go_ret;refine⟨ret_bool ?_,rfl⟩;simp<;>omega)
theorem validVal_any(k:Int)(s:Bool)(m h lo hi:Int)(n:Int)(w:World):
 Calls Tryz.prog 71 #[.agg #[.int .i64 k,.bool s,.int .i64 m,.int .i64 h,.int .i64 lo,.int .i64 hi],.int .i64 n] w fun e w'=>e=.returned (.bool (goodB ⟨k,s,m,h,lo,hi⟩ n))/\Below w.heap.size w w':=by
 go_enter Tryz.func71,Tryz.ntmps71;go_wp2;all_goals(go_ret;refine⟨ret_bool ?_,(Below.refl _ _).alloc (Nat.le_refl _) _⟩;simp_all[goodB]<;>omega)
theorem l4Good_any(k:Int)(s:Bool)(m h lo hi:Int)(n:Int)(w:World)(hn:0<=n)(hn':n<=8):
 Calls Tryz.prog 64 #[.agg #[.int .i64 k,.bool s,.int .i64 m,.int .i64 h,.int .i64 lo,.int .i64 hi],.int .i64 n] w fun e w'=>e=.returned (.bool (goodB ⟨k,s,m,h,lo,hi⟩ n))/\Below w.heap.size w w':=by
 go_enter Tryz.func64,Tryz.ntmps64;go_wp2_with(go_at_call 15;refine(v_in_any _ _ _ _).mono ?_;rintro e w'⟨rfl,rfl⟩);all_goals(go_ret;refine⟨ret_bool ?_,(Below.refl _ _).alloc (Nat.le_refl _) _⟩;simp_all[goodB]<;>first|omega|rfl)
def goodAll(V:Nat->VV)(len:Nat)(n:Int):Bool:=decide (len=8)&&(List.range len).all fun i=>goodB (V i) n
theorem goodAll_stop{V:Nat->VV}{len k:Nat}{n:Int}(hk:k<len)(h:goodB (V k) n=false):goodAll V len n=false:=by
 have:(List.range len).all (fun i=>goodB (V i) n)=false:=by
  rw[List.all_eq_false];exact⟨k,List.mem_range.2 hk,by simp[h]⟩
 simp[goodAll,this]
theorem goodAll_end{V:Nat->VV}{len:Nat}{n:Int}(h:∀i,i<len->goodB (V i) n=true):goodAll V len n=decide (len=8):=by
 have:(List.range len).all (fun i=>goodB (V i) n)=true:=by
  rw[List.all_eq_true];exact fun i hi=>h i (List.mem_range.1 hi)
 simp only[goodAll,this,Bool.and_true]
theorem good_step{V:Nat->VV}{k:Nat}{n:Int}(h:∀i,i<k->goodB (V i) n=true)(g:goodB (V k) n=true):∀i,i<k+1->goodB (V i) n=true:=by
 intro i hi;by_cases e:i=k
 ·rw[e];exact g
 ·exact h i (by omega)
theorem validVals_at(b off len cap:Nat)(V:Nat->VV)(n:Int)(w:World)(hlen:len<=1048576)(hat:At w b off (len*6) (vF V)):
 Calls Tryz.prog 48 #[.slice (some ⟨b,off,none⟩) len cap,.int .i64 n] w fun e w'=>e=.returned (.bool (goodAll V len n))/\Below w.heap.size w w':=by
 have hb:=hat.lt;have HA:Hid (At w b off (len*6) (vF V)):=hat;clear hat;go_enter Tryz.func48,Tryz.ntmps48;go_wp2;go_loopw [9](fun i wr=>∃k:Nat,k<=len/\i=.int .i64 k/\Below w.heap.size w wr/\∀i,i<k->goodB (V i) n=true)(fun i _=>len-(intOf i).toNat)
 case atStart=>exact⟨0,Nat.zero_le _,rfl,Below.refl _ _,fun i hi=>by omega⟩
 case round=>
  obtain⟨k,hk,rfl,hbr,hall⟩:=hrel;have HL:Hid (∀i,i<k->goodB (V i) n=true):=hall;clear hall;by_cases hlt:k<len
  ·have g0:=(hbr.cell (p:=⟨b,off+k*6,none⟩) hb).trans (HA.out.cell (i:=k*6+0) (by omega) |>.trans (congrArg some (vF_at V k 0 (by omega))))
   have g1:=(hbr.cell (p:=⟨b,off+k*6+1,none⟩) hb).trans (HA.out.cell (i:=k*6+1) (by omega) |>.trans (congrArg some (vF_at V k 1 (by omega))));have g2:=(hbr.cell (p:=⟨b,off+k*6+2,none⟩) hb).trans (HA.out.cell (i:=k*6+2) (by omega) |>.trans (congrArg some (vF_at V k 2 (by omega))));have g3:=(hbr.cell (p:=⟨b,off+k*6+3,none⟩) hb).trans (HA.out.cell (i:=k*6+3) (by omega) |>.trans (congrArg some (vF_at V k 3 (by omega))));have g4:=(hbr.cell (p:=⟨b,off+k*6+4,none⟩) hb).trans (HA.out.cell (i:=k*6+4) (by omega) |>.trans (congrArg some (vF_at V k 4 (by omega))));have g5:=(hbr.cell (p:=⟨b,off+k*6+5,none⟩) hb).trans (HA.out.cell (i:=k*6+5) (by omega) |>.trans (congrArg some (vF_at V k 5 (by omega))));simp only[vC]at g0 g1 g2 g3 g4 g5;go_wp2_with fail;refine(validVal_any _ _ _ _ _ _ _ _).mono ?_;rintro e w2⟨rfl,hb2⟩;have hbr2:Below w.heap.size w w2:=(hbr.alloc hbr.size _).trans (hb2.mono (by have:=hbr.size;simp;omega));clear g0 g1 g2 g3 g4 g5;have hv:goodB ⟨(V k).k,(V k).s,(V k).m,(V k).h,(V k).lo,(V k).hi⟩ n=goodB (V k) n:=rfl;rw[hv];cases hg:goodB (V k) n with
   |false=>
    have HG:Hid (goodB (V k) n=false):=hg;clear hg hv;go_wp2;go_ret;exact⟨ret_bool (goodAll_stop hlt HG.out).symm,hbr2⟩
   |true=>
    have HG:Hid (goodB (V k) n=true):=hg;clear hg hv;go_wp2;go_roundw
    case rel=>exact⟨k+1,by omega,by go_num,hbr2,good_step HL.out HG.out⟩
    case measure=>simp[intOf];omega
  ·obtain rfl:k=len:=by omega
   go_wp2
   ·go_ret
    refine⟨ret_bool ?_,hbr⟩;rw[goodAll_end HL.out,Bool.eq_iff_iff];simp<;>omega
theorem l4GoodRegs_at(b off len cap:Nat)(V:Nat->VV)(n:Int)(w:World)(hlen:len<=1048576)(hn:0<=n)(hn':n<=8)(hat:At w b off (len*6) (vF V)):
 Calls Tryz.prog 40 #[.slice (some ⟨b,off,none⟩) len cap,.int .i64 n] w fun e w'=>e=.returned (.bool (goodAll V len n))/\Below w.heap.size w w':=by
 have hb:=hat.lt;have HA:Hid (At w b off (len*6) (vF V)):=hat;clear hat;by_cases h8:len=8
 ·subst h8
  go_enter Tryz.func40,Tryz.ntmps40;go_wp2;go_loopw [5](fun i wr=>∃k:Nat,k<=8/\i=.int .i64 k/\Below w.heap.size w wr/\∀i,i<k->goodB (V i) n=true)(fun i _=>8-(intOf i).toNat)
  case atStart=>exact⟨0,Nat.zero_le _,rfl,Below.refl _ _,fun i hi=>by omega⟩
  case round=>
   obtain⟨k,hk,rfl,hbr,hall⟩:=hrel;have HL:Hid (∀i,i<k->goodB (V i) n=true):=hall;clear hall;by_cases hlt:k<8
   ·have g0:=(hbr.cell (p:=⟨b,off+k*6,none⟩) hb).trans (HA.out.cell (i:=k*6+0) (by omega) |>.trans (congrArg some (vF_at V k 0 (by omega))))
    have g1:=(hbr.cell (p:=⟨b,off+k*6+1,none⟩) hb).trans (HA.out.cell (i:=k*6+1) (by omega) |>.trans (congrArg some (vF_at V k 1 (by omega))));have g2:=(hbr.cell (p:=⟨b,off+k*6+2,none⟩) hb).trans (HA.out.cell (i:=k*6+2) (by omega) |>.trans (congrArg some (vF_at V k 2 (by omega))));have g3:=(hbr.cell (p:=⟨b,off+k*6+3,none⟩) hb).trans (HA.out.cell (i:=k*6+3) (by omega) |>.trans (congrArg some (vF_at V k 3 (by omega))));have g4:=(hbr.cell (p:=⟨b,off+k*6+4,none⟩) hb).trans (HA.out.cell (i:=k*6+4) (by omega) |>.trans (congrArg some (vF_at V k 4 (by omega))));have g5:=(hbr.cell (p:=⟨b,off+k*6+5,none⟩) hb).trans (HA.out.cell (i:=k*6+5) (by omega) |>.trans (congrArg some (vF_at V k 5 (by omega))));simp only[vC]at g0 g1 g2 g3 g4 g5;go_wp2_with fail;refine(l4Good_any _ _ _ _ _ _ _ _ hn hn').mono ?_;rintro e w2⟨rfl,hb2⟩;have hbr2:Below w.heap.size w w2:=hbr.trans (hb2.mono hbr.size);clear g0 g1 g2 g3 g4 g5;have hv:goodB ⟨(V k).k,(V k).s,(V k).m,(V k).h,(V k).lo,(V k).hi⟩ n=goodB (V k) n:=rfl;rw[hv];cases hg:goodB (V k) n with
    |false=>
     have HG:Hid (goodB (V k) n=false):=hg;clear hg hv;go_wp2;go_ret;exact⟨ret_bool (goodAll_stop hlt HG.out).symm,hbr2⟩
    |true=>
     have HG:Hid (goodB (V k) n=true):=hg;clear hg hv;go_wp2;go_roundw
     case rel=>exact⟨k+1,by omega,by go_num,hbr2,good_step HL.out HG.out⟩
     case measure=>simp[intOf];omega
   ·obtain rfl:k=8:=by omega
    go_wp2;go_ret;exact⟨ret_bool (by rw[goodAll_end HL.out];rfl),hbr⟩
 ·have hf:goodAll V len n=false:=by simp[goodAll,h8]
  rw[hf];clear hf;go_enter Tryz.func40,Tryz.ntmps40;go_wp2;all_goals(go_ret;exact⟨rfl,Below.refl _ _⟩)
end Go.Proofs.YtiphbmhoifggiaaGreatDoor
