import Derived.Test.YtdbhgaegblclaaaDoorOfInsSame
import Derived.Test.YtdbhgaegblclaaaDoorOfRegT
import Derived.Deep.QuietTactic
import Derived.BigQuiet
set_option maxHeartbeats 400000
namespace Go.Proofs.YtdbhgaegblclaaaDoor
open Go.RowKit
theorem info_iIns:(Tryd.prog.info? 56).map (fun i=>(i.zero,i.size,i.bytes))=some (some (.agg #[.int .i64 0,.int .i64 0,.int .i64 0,.int .i64 0,.int .i64 0,.int .i64 0]),6,48):=by kernel_rfl
def insF(F:Nat->Nat->Int)(i:Nat):Value:=.int .i64 (F (i/6) (i%6))
def insTo(F:Nat->Nat->Int)(k i:Nat):Value:=.int .i64 (if i<k*6 then F (i/6) (i%6)else 0)
theorem insF_at(F:Nat->Nat->Int)(k j:Nat)(hj:j<6):insF F (k*6+j)=.int .i64 (F k j):=by
 unfold insF;rw[show(k*6+j)/6=k by omega,show(k*6+j)%6=j by omega]
theorem insTo_zero(F:Nat->Nat->Int)(i:Nat):insTo F 0 i=.int .i64 0:=by simp[insTo]
theorem insTo_step(F:Nat->Nat->Int)(k i:Nat):(if k*6<=i/\i<k*6+[Value.int .i64 (F k 0),Value.int .i64 (F k 1),Value.int .i64 (F k 2),Value.int .i64 (F k 3),Value.int .i64 (F k 4),Value.int .i64 (F k 5)].length then[Value.int .i64 (F k 0),Value.int .i64 (F k 1),Value.int .i64 (F k 2),Value.int .i64 (F k 3),Value.int .i64 (F k 4),Value.int .i64 (F k 5)].getD (i-k*6) undef else insTo F k i)=insTo F (k+1) i:=by
 by_cases h:k*6<=i/\i<k*6+6
 ·obtain⟨j,rfl⟩:∃j,i=k*6+j:=⟨i-k*6,by omega⟩
  have hj:j<6:=by omega
  simp only[List.length_cons,List.length_nil,h];unfold insTo;rw[show(k*6+j)/6=k by omega,show(k*6+j)%6=j by omega,if_pos (by omega:k*6+j<(k+1)*6),show k*6+j-k*6=j by omega];match j,hj with
  |0,_=>simp
  |1,_=>simp
  |2,_=>simp
  |3,_=>simp
  |4,_=>simp
  |5,_=>simp
 ·simp only[List.length_cons,List.length_nil]
  rw[if_neg (by omega)];unfold insTo;by_cases g:i<k*6
  ·rw[if_pos g,if_pos (by omega)]
  ·rw[if_neg g,if_neg (by omega)]
theorem six_stores(w:World)(b k:Nat)(F:Nat->Nat->Int):(((((w.setCell ⟨b,k*6,none⟩ (.int .i64 (F k 0))).setCell ⟨b,k*6+1,none⟩ (.int .i64 (F k 1))).setCell ⟨b,k*6+2,none⟩ (.int .i64 (F k 2))).setCell ⟨b,k*6+3,none⟩ (.int .i64 (F k 3))).setCell ⟨b,k*6+4,none⟩ (.int .i64 (F k 4))).setCell ⟨b,k*6+5,none⟩ (.int .i64 (F k 5))
 =w.setCells b (k*6) [Value.int .i64 (F k 0),Value.int .i64 (F k 1),Value.int .i64 (F k 2),Value.int .i64 (F k 3),Value.int .i64 (F k 4),Value.int .i64 (F k 5)]:=rfl
theorem toIns_round{w w2 w3:World}{k len:Nat}{F:Nat->Nat->Int}(hlt:k<len)(hb:Below w.heap.size w w2)(ha:Arr w2 w.heap.size (len*6) (insTo F k))(hb2:Below w2.heap.size w2 w3):
 Below w.heap.size w (w3.setCells w.heap.size (k*6) [Value.int .i64 (F k 0),Value.int .i64 (F k 1),Value.int .i64 (F k 2),Value.int .i64 (F k 3),Value.int .i64 (F k 4),Value.int .i64 (F k 5)])/\
 Arr (w3.setCells w.heap.size (k*6) [Value.int .i64 (F k 0),Value.int .i64 (F k 1),Value.int .i64 (F k 2),Value.int .i64 (F k 3),Value.int .i64 (F k 4),Value.int .i64 (F k 5)]) w.heap.size (len*6) (insTo F (k+1)):=
 ⟨below_setCells (Nat.le_refl _) _ _ (hb.trans (hb2.mono (Nat.le_of_lt ha.lt))),((ha.below hb2 ha.lt).setCells _ _ (by simp;omega)).congr fun i _=>insTo_step F k i⟩
theorem zero6 (i : Nat) : ((Value.agg #[.int .i64 0, .int .i64 0, .int .i64 0, .int .i64 0, .int .i64 0, .int .i64 0]).cells)[i % ((Value.agg #[.int .i64 0, .int .i64 0, .int .i64 0, .int .i64 0, .int .i64 0, .int .i64 0]).cells).size]! = .int .i64 0 := by
 show (#[Value.int .i64 0, .int .i64 0, .int .i64 0, .int .i64 0, .int .i64 0, .int .i64 0] : Array Value)[i % 6]! = _;have : i % 6 < 6 := by omega
 match i % 6, this with
 | 0, _ => rfl
 | 1, _ => rfl
 | 2, _ => rfl
 | 3, _ => rfl
 | 4, _ => rfl
 | 5, _ => rfl
theorem toInsS_any(b off len cap:Nat)(F:Nat->Nat->Int)(w:World)(hlen:len<=1048576)(hat:At w b off (len*6) (insF F)):
 Calls Tryd.prog 17 #[.slice (some ⟨b,off,none⟩) len cap] w fun e w'=>e=.returned (.slice (some ⟨w.heap.size,0,none⟩) len len)/\Below w.heap.size w w'/\Arr w' w.heap.size (len*6) (insF F):=by
 obtain⟨i0,hi,hz0,hz1,hz2⟩:=info_parts info_iIns;have hb:=hat.lt;have HA:Hid (At w b off (len*6) (insF F)):=hat;clear hat;go_enter Tryd.func17,Tryd.ntmps17;go_wp2_with(first|(at_make;refine wpList_make_full _ rfl _ _ 23 rfl w.heap.size 56 i0 _ 6 Tryd.underlying23 hi hz0 hz1 .i64 .i64 _ _ len rfl rfl ?c1 ?c2 ?c3 ?c4 ?c5 ?_)|go_in)
 case c1=>rfl
 case c2=>rfl
 case c3=>rw[hz2];omega
 case c4=>unfold maxLen;omega
 case c5=>exact Nat.le_refl _
 ·intro w1 hown hgrow
  have hbel:Below w.heap.size w w1:=(Below.refl _ _).grown hgrow (Nat.le_refl _) (by intro k hk;cases hk);have harr:Arr w1 w.heap.size (len*6) (insTo F 0):=Arr.made hown fun i hi=>by
   rw[made_get _ _ _ hi,insTo_zero];exact congrArg some (zero6 i)
  clear hown hgrow hi hz0 hz1 hz2;go_wp2;go_loopw [4](fun i wr=>∃k:Nat,k<=len/\i=.int .i64 k/\Below w.heap.size w wr/\Arr wr w.heap.size (len*6) (insTo F k))(fun i _=>len-(intOf i).toNat)
  case atStart=>exact⟨0,Nat.zero_le _,rfl,hbel,harr⟩
  case round=>
   clear harr hbel;obtain⟨k,hk,rfl,hbr,har⟩:=hrel;have HAR:Hid (Arr wr w.heap.size (len*6) (insTo F k)):=har;have hzr:=har.lt;clear har;by_cases hlt:k<len
   ·have g0:=(hbr.cell (p:=⟨b,off+k*6,none⟩) hb).trans ((HA.out.cell (i:=k*6+0) (by omega)).trans (congrArg some (insF_at F k 0 (by omega))))
    have g1:=(hbr.cell (p:=⟨b,off+k*6+1,none⟩) hb).trans ((HA.out.cell (i:=k*6+1) (by omega)).trans (congrArg some (insF_at F k 1 (by omega))));have g2:=(hbr.cell (p:=⟨b,off+k*6+2,none⟩) hb).trans ((HA.out.cell (i:=k*6+2) (by omega)).trans (congrArg some (insF_at F k 2 (by omega))));have g3:=(hbr.cell (p:=⟨b,off+k*6+3,none⟩) hb).trans ((HA.out.cell (i:=k*6+3) (by omega)).trans (congrArg some (insF_at F k 3 (by omega))));have g4:=(hbr.cell (p:=⟨b,off+k*6+4,none⟩) hb).trans ((HA.out.cell (i:=k*6+4) (by omega)).trans (congrArg some (insF_at F k 4 (by omega))));have g5:=(hbr.cell (p:=⟨b,off+k*6+5,none⟩) hb).trans ((HA.out.cell (i:=k*6+5) (by omega)).trans (congrArg some (insF_at F k 5 (by omega))));go_wp2_with fail;refine(toIns_any _ _ _ _ _ _ _).mono ?_;rintro e w2⟨rfl,hb2⟩;clear g0 g1 g2 g3 g4 g5;have R:=toIns_round hlt hbr HAR.out hb2;have A2:=HAR.out.below hb2 hzr;have f2:=A2.free;have c0:=A2.cell (i:=k*6) (by omega);have c1:=A2.cell (i:=k*6+1) (by omega);have c2:=A2.cell (i:=k*6+2) (by omega);have c3:=A2.cell (i:=k*6+3) (by omega);have c4:=A2.cell (i:=k*6+4) (by omega);have c5:=A2.cell (i:=k*6+5) (by omega);have HR:Hid _:=R;clear R A2;go_wp2;go_roundw
    case rel=>rw[six_stores];exact⟨k+1,by omega,by go_num,HR.out.1,HR.out.2⟩
    case measure=>simp[intOf];omega
   ·go_wp2
    go_ret;have:k=len:=by omega
    subst this;exact⟨rfl,hbr,HAR.out.congr fun i hi=>by unfold insTo insF;rw[if_pos hi]⟩
end Go.Proofs.YtdbhgaegblclaaaDoor
