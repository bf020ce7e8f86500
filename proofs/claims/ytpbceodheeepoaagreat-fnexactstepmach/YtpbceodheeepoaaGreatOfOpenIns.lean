import Derived.Test.YtpbceodheeepoaaGreatOfInsSame
import Derived.Test.YtpbceodheeepoaaGreatOfCoreF
import Derived.Deep.QuietTactic
import Derived.BigQuiet
import Derived.Deep.RegionWith
import Derived.BigRegion
set_option maxHeartbeats 1000000
set_option maxRecDepth 100000
namespace Go.Proofs.YtpbceodheeepoaaGreat
open Go.RowKit
theorem info_iIns:(Tryz.prog.info? 73).map (fun i=>(i.zero,i.size,i.bytes))=some (some (.agg #[.int .i64 0,.int .i64 0,.int .i64 0,.int .i64 0,.int .i64 0,.int .i64 0]),6,48):=by kernel_rfl
def insF(F:Nat->Nat->Int)(i:Nat):Value:=.int .i64 (F (i/6) (i%6))
def insTo(F:Nat->Nat->Int)(k i:Nat):Value:=.int .i64 (if i<k*6 then F (i/6) (i%6)else 0)
theorem insF_at(F:Nat->Nat->Int)(k j:Nat)(hj:j<6):insF F (k*6+j)=.int .i64 (F k j):=by
 unfold insF;rw[show(k*6+j)/6=k by omega,show(k*6+j)%6=j by omega]
theorem insTo_zero(F:Nat->Nat->Int)(i:Nat):insTo F 0 i=.int .i64 0:=by simp[insTo]
theorem insTo_step(F:Nat->Nat->Int)(k i:Nat):(if k*6<=i/\i<k*6+[Value.int .i64 (F k 0),Value.int .i64 (F k 1),Value.int .i64 (F k 2),Value.int .i64 (F k 3),Value.int .i64 (F k 4),Value.int .i64 (F k 5)].length then[Value.int .i64 (F k 0),Value.int .i64 (F k 1),Value.int .i64 (F k 2),Value.int .i64 (F k 3),Value.int .i64 (F k 4),Value.int .i64 (F k 5)].getD (i-k*6) undef else insTo F k i)=insTo F (k+1) i:=by
 by_cases h:k*6<=i/\i<k*6+6
 ·obtain⟨j,rfl⟩:∃j,i=k*6+j:=⟨i-k*6,by omega⟩
  have hj:j<6:=by omega
  simp only[List.length_cons,List.length_nil,h];unfold insTo;rw[show(k*6+j)/6=k by omega,show(k*6+j)%6=j by omega,if_pos (by omega:k*6+j<(k+1)*6),show k*6+j-k*6=j by omega];match j,hj with
  |0,_=>simp
  |1,_=>simp
  |2,_=>simp
  |3,_=>simp
  |4,_=>simp
  |5,_=>simp
 ·simp only[List.length_cons,List.length_nil]
  rw[if_neg (by omega)];unfold insTo;by_cases g:i<k*6
  ·rw[if_pos g,if_pos (by omega)]
  ·rw[if_neg g,if_neg (by omega)]
theorem six_stores(w:World)(b k:Nat)(F:Nat->Nat->Int):(((((w.setCell ⟨b,k*6,none⟩ (.int .i64 (F k 0))).setCell ⟨b,k*6+1,none⟩ (.int .i64 (F k 1))).setCell ⟨b,k*6+2,none⟩ (.int .i64 (F k 2))).setCell ⟨b,k*6+3,none⟩ (.int .i64 (F k 3))).setCell ⟨b,k*6+4,none⟩ (.int .i64 (F k 4))).setCell ⟨b,k*6+5,none⟩ (.int .i64 (F k 5))
 =w.setCells b (k*6) [Value.int .i64 (F k 0),Value.int .i64 (F k 1),Value.int .i64 (F k 2),Value.int .i64 (F k 3),Value.int .i64 (F k 4),Value.int .i64 (F k 5)]:=rfl
theorem toIns_round{w w2 w3:World}{k len:Nat}{F:Nat->Nat->Int}(hlt:k<len)(hb:Below w.heap.size w w2)(ha:Arr w2 w.heap.size (len*6) (insTo F k))(hb2:Below w2.heap.size w2 w3):
 Below w.heap.size w (w3.setCells w.heap.size (k*6) [Value.int .i64 (F k 0),Value.int .i64 (F k 1),Value.int .i64 (F k 2),Value.int .i64 (F k 3),Value.int .i64 (F k 4),Value.int .i64 (F k 5)])/\
 Arr (w3.setCells w.heap.size (k*6) [Value.int .i64 (F k 0),Value.int .i64 (F k 1),Value.int .i64 (F k 2),Value.int .i64 (F k 3),Value.int .i64 (F k 4),Value.int .i64 (F k 5)]) w.heap.size (len*6) (insTo F (k+1)):=
 ⟨below_setCells (Nat.le_refl _) _ _ (hb.trans (hb2.mono (Nat.le_of_lt ha.lt))),((ha.below hb2 ha.lt).setCells _ _ (by simp;omega)).congr fun i _=>insTo_step F k i⟩
theorem zero6 (i : Nat) : ((Value.agg #[.int .i64 0, .int .i64 0, .int .i64 0, .int .i64 0, .int .i64 0, .int .i64 0]).cells)[i % ((Value.agg #[.int .i64 0, .int .i64 0, .int .i64 0, .int .i64 0, .int .i64 0, .int .i64 0]).cells).size]! = .int .i64 0 := by
 show (#[Value.int .i64 0, .int .i64 0, .int .i64 0, .int .i64 0, .int .i64 0, .int .i64 0] : Array Value)[i % 6]! = _;have : i % 6 < 6 := by omega
 match i % 6, this with
 | 0, _ => rfl
 | 1, _ => rfl
 | 2, _ => rfl
 | 3, _ => rfl
 | 4, _ => rfl
 | 5, _ => rfl
theorem toInsS_any(b off len cap:Nat)(F:Nat->Nat->Int)(w:World)(hlen:len<=1048576)(hat:At w b off (len*6) (insF F)):
 Calls Tryz.prog 17 #[.slice (some ⟨b,off,none⟩) len cap] w fun e w'=>e=.returned (.slice (some ⟨w.heap.size,0,none⟩) len len)/\Below w.heap.size w w'/\Arr w' w.heap.size (len*6) (insF F):=by
 obtain⟨i0,hi,hz0,hz1,hz2⟩:=info_parts info_iIns;have hb:=hat.lt;have HA:Hid (At w b off (len*6) (insF F)):=hat;clear hat;go_enter Tryz.func17,Tryz.ntmps17;go_wp2_with(first|(at_make;refine wpList_make_full _ rfl _ _ 23 rfl w.heap.size 73 i0 _ 6 Tryz.underlying23 hi hz0 hz1 .i64 .i64 _ _ len rfl rfl ?c1 ?c2 ?c3 ?c4 ?c5 ?_)|go_in)
 case c1=>rfl
 case c2=>rfl
 case c3=>rw[hz2];omega
 case c4=>unfold maxLen;omega
 case c5=>exact Nat.le_refl _
 ·intro w1 hown hgrow
  have hbel:Below w.heap.size w w1:=(Below.refl _ _).grown hgrow (Nat.le_refl _) (by intro k hk;cases hk);have harr:Arr w1 w.heap.size (len*6) (insTo F 0):=Arr.made hown fun i hi=>by
   rw[made_get _ _ _ hi,insTo_zero];exact congrArg some (zero6 i)
  clear hown hgrow hi hz0 hz1 hz2;go_wp2;go_loopw [4](fun i wr=>∃k:Nat,k<=len/\i=.int .i64 k/\Below w.heap.size w wr/\Arr wr w.heap.size (len*6) (insTo F k))(fun i _=>len-(intOf i).toNat)
  case atStart=>exact⟨0,Nat.zero_le _,rfl,hbel,harr⟩
  case round=>
   clear harr hbel;obtain⟨k,hk,rfl,hbr,har⟩:=hrel;have HAR:Hid (Arr wr w.heap.size (len*6) (insTo F k)):=har;have hzr:=har.lt;clear har;by_cases hlt:k<len
   ·have g0:=(hbr.cell (p:=⟨b,off+k*6,none⟩) hb).trans ((HA.out.cell (i:=k*6+0) (by omega)).trans (congrArg some (insF_at F k 0 (by omega))))
    have g1:=(hbr.cell (p:=⟨b,off+k*6+1,none⟩) hb).trans ((HA.out.cell (i:=k*6+1) (by omega)).trans (congrArg some (insF_at F k 1 (by omega))));have g2:=(hbr.cell (p:=⟨b,off+k*6+2,none⟩) hb).trans ((HA.out.cell (i:=k*6+2) (by omega)).trans (congrArg some (insF_at F k 2 (by omega))));have g3:=(hbr.cell (p:=⟨b,off+k*6+3,none⟩) hb).trans ((HA.out.cell (i:=k*6+3) (by omega)).trans (congrArg some (insF_at F k 3 (by omega))));have g4:=(hbr.cell (p:=⟨b,off+k*6+4,none⟩) hb).trans ((HA.out.cell (i:=k*6+4) (by omega)).trans (congrArg some (insF_at F k 4 (by omega))));have g5:=(hbr.cell (p:=⟨b,off+k*6+5,none⟩) hb).trans ((HA.out.cell (i:=k*6+5) (by omega)).trans (congrArg some (insF_at F k 5 (by omega))));go_wp2_with fail;refine(toIns_any _ _ _ _ _ _ _).mono ?_;rintro e w2⟨rfl,hb2⟩;clear g0 g1 g2 g3 g4 g5;have R:=toIns_round hlt hbr HAR.out hb2;have A2:=HAR.out.below hb2 hzr;have f2:=A2.free;have c0:=A2.cell (i:=k*6) (by omega);have c1:=A2.cell (i:=k*6+1) (by omega);have c2:=A2.cell (i:=k*6+2) (by omega);have c3:=A2.cell (i:=k*6+3) (by omega);have c4:=A2.cell (i:=k*6+4) (by omega);have c5:=A2.cell (i:=k*6+5) (by omega);have HR:Hid _:=R;clear R A2;go_wp2;go_roundw
    case rel=>rw[six_stores];exact⟨k+1,by omega,by go_num,HR.out.1,HR.out.2⟩
    case measure=>simp[intOf];omega
   ·go_wp2
    go_ret;have:k=len:=by omega
    subst this;exact⟨rfl,hbr,HAR.out.congr fun i hi=>by unfold insTo insF;rw[if_pos hi]⟩
def insOK(F:Nat->Nat->Int)(i:Nat):Bool:=implIns (F i 0) (F i 1) (F i 2) (F i 3) (F i 4) (F i 5)
def flatAt(len:Nat)(F:Nat->Nat->Int)(i:Nat):Bool:=insOK F i&&!(jumpB (F i 0)&&decide ((len:Int)<=F i 4))
def flatOK(len:Nat)(F:Nat->Nat->Int):Bool:=decide (1<=len)&&decide (len<=2000)&&(List.range len).all (flatAt len F)&&(F (len-1) 0==34)
theorem flat_stop{len k:Nat}{F:Nat->Nat->Int}(hk:k<len)(h:flatAt len F k=false):flatOK len F=false:=by
 have:(List.range len).all (flatAt len F)=false:=by
  rw[List.all_eq_false];exact⟨k,List.mem_range.2 hk,by simp[h]⟩
 simp[flatOK,this]
theorem flat_end{len:Nat}{F:Nat->Nat->Int}(h1:1<=len)(h2:len<=2000)(h:∀i,i<len->flatAt len F i=true):flatOK len F=(F (len-1) 0==34):=by
 have:(List.range len).all (flatAt len F)=true:=by
  rw[List.all_eq_true];exact fun i hi=>h i (List.mem_range.1 hi)
 simp[flatOK,this,h1,h2]
theorem flat_step{len k:Nat}{F:Nat->Nat->Int}(h:∀i,i<k->flatAt len F i=true)(g:flatAt len F k=true):∀i,i<k+1->flatAt len F i=true:=by
 intro i hi;by_cases e:i=k
 ·rw[e];exact g
 ·exact h i (by omega)
theorem flat_bad{len:Nat}{F:Nat->Nat->Int}(h:len<1∨2000<len):flatOK len F=false:=by
 rcases h with h|h<;>simp[flatOK]<;>intros<;>omega
theorem specFlat_bad(ao:Option Addr)(len cap:Nat)(F:Nat->Nat->Int)(w:World)(h:len<1∨2000<len)(hm:len<=1048576):
 Calls Tryz.prog 11 #[.slice ao len cap] w fun e w'=>e=.returned (.bool (flatOK len F))/\Below w.heap.size w w':=by
 rw[flat_bad h];rcases h with h|h
 ·obtain rfl:len=0:=by omega
  go_enter Tryz.func11,Tryz.ntmps11;go_wp2;go_ret;exact⟨rfl,Below.refl _ _⟩
 ·go_enter Tryz.func11,Tryz.ntmps11
  go_wp2;go_ret;exact⟨rfl,Below.refl _ _⟩
theorem specFlat_at(b off len cap:Nat)(F:Nat->Nat->Int)(w:World)(h1:1<=len)(h2:len<=2000)(hat:At w b off (len*6) (insF F)):
 Calls Tryz.prog 11 #[.slice (some ⟨b,off,none⟩) len cap] w fun e w'=>e=.returned (.bool (flatOK len F))/\Below w.heap.size w w':=by
 have hb:=hat.lt;have HA:Hid (At w b off (len*6) (insF F)):=hat;clear hat;go_enter Tryz.func11,Tryz.ntmps11;go_wp2;go_loopw [4](fun i wr=>∃k:Nat,k<=len/\i=.int .i64 k/\Below w.heap.size w wr/\∀i,i<k->flatAt len F i=true)(fun i _=>len-(intOf i).toNat)
 case atStart=>exact⟨0,Nat.zero_le _,rfl,Below.refl _ _,fun i hi=>by omega⟩
 case round=>
  obtain⟨k,hk,rfl,hbr,hall⟩:=hrel;have HL:Hid (∀i,i<k->flatAt len F i=true):=hall;clear hall;by_cases hlt:k<len
  ·have g0:=(hbr.cell (p:=⟨b,off+k*6,none⟩) hb).trans ((HA.out.cell (i:=k*6+0) (by omega)).trans (congrArg some (insF_at F k 0 (by omega))))
   have g1:=(hbr.cell (p:=⟨b,off+k*6+1,none⟩) hb).trans ((HA.out.cell (i:=k*6+1) (by omega)).trans (congrArg some (insF_at F k 1 (by omega))));have g2:=(hbr.cell (p:=⟨b,off+k*6+2,none⟩) hb).trans ((HA.out.cell (i:=k*6+2) (by omega)).trans (congrArg some (insF_at F k 2 (by omega))));have g3:=(hbr.cell (p:=⟨b,off+k*6+3,none⟩) hb).trans ((HA.out.cell (i:=k*6+3) (by omega)).trans (congrArg some (insF_at F k 3 (by omega))));have g4:=(hbr.cell (p:=⟨b,off+k*6+4,none⟩) hb).trans ((HA.out.cell (i:=k*6+4) (by omega)).trans (congrArg some (insF_at F k 4 (by omega))));have g5:=(hbr.cell (p:=⟨b,off+k*6+5,none⟩) hb).trans ((HA.out.cell (i:=k*6+5) (by omega)).trans (congrArg some (insF_at F k 5 (by omega))));go_wp2_with fail;refine(specIns_any _ _ _ _ _ _ _).mono ?_;rintro e w2⟨rfl,hb2⟩;have hbr2:Below w.heap.size w w2:=hbr.trans (hb2.mono hbr.size);clear g0 g1 g2 g3 g4 g5;have g0:=(hbr2.cell (p:=⟨b,off+k*6,none⟩) hb).trans ((HA.out.cell (i:=k*6+0) (by omega)).trans (congrArg some (insF_at F k 0 (by omega))));have g4:=(hbr2.cell (p:=⟨b,off+k*6+4,none⟩) hb).trans ((HA.out.cell (i:=k*6+4) (by omega)).trans (congrArg some (insF_at F k 4 (by omega))));go_wp2_with(go_at_call 38;refine(jump_any _ _).mono ?_;rintro e w'⟨rfl,rfl⟩)
   ·go_ret
    have t1:implIns (F k 0) (F k 1) (F k 2) (F k 3) (F k 4) (F k 5)=true:=by assumption
    have t2:jumpB (F k 0)=true:=by assumption
    have t3:(len:Int)<=F k 4:=by assumption
    exact⟨ret_bool (flat_stop hlt (by simp[flatAt,t2,t3])).symm,hbr2⟩
   ·have t1:implIns (F k 0) (F k 1) (F k 2) (F k 3) (F k 4) (F k 5)=true:=by assumption
    have t3:F k 4<(len:Int):=by assumption
    go_roundw
    case rel=>exact⟨k+1,by omega,by go_num,hbr2,flat_step HL.out (by simp[flatAt,insOK,t1];omega)⟩
    case measure=>simp[intOf];omega
   ·have t1:implIns (F k 0) (F k 1) (F k 2) (F k 3) (F k 4) (F k 5)=true:=by assumption
    have t2:¬jumpB (F k 0)=true:=by assumption
    go_roundw
    case rel=>exact⟨k+1,by omega,by go_num,hbr2,flat_step HL.out (by simp[flatAt,insOK,t1,t2])⟩
    case measure=>simp[intOf];omega
   ·go_ret
    have t1:¬implIns (F k 0) (F k 1) (F k 2) (F k 3) (F k 4) (F k 5)=true:=by assumption
    exact⟨ret_bool (flat_stop hlt (by simp[flatAt,insOK,t1])).symm,hbr2⟩
  ·obtain rfl:k=len:=by omega
   have g0:=(hbr.cell (p:=⟨b,off+(k-1)*6,none⟩) hb).trans ((HA.out.cell (i:=(k-1)*6+0) (by omega)).trans (congrArg some (insF_at F (k-1) 0 (by omega))));go_wp2;go_ret;exact⟨ret_bool (flat_end h1 h2 HL.out).symm,hbr⟩
theorem implFlat_bad(ao:Option Addr)(len cap:Nat)(F:Nat->Nat->Int)(w:World)(h:len<1∨2000<len)(hm:len<=1048576):
 Calls Tryz.prog 28 #[.slice ao len cap] w fun e w'=>e=.returned (.bool (flatOK len F))/\Below w.heap.size w w':=by
 rw[flat_bad h];rcases h with h|h
 ·obtain rfl:len=0:=by omega
  go_enter Tryz.func28,Tryz.ntmps28;go_wp2;go_ret;exact⟨rfl,Below.refl _ _⟩
 ·go_enter Tryz.func28,Tryz.ntmps28
  go_wp2;go_ret;exact⟨rfl,Below.refl _ _⟩
theorem implFlat_at(b off len cap:Nat)(F:Nat->Nat->Int)(w:World)(h1:1<=len)(h2:len<=2000)(hat:At w b off (len*6) (insF F)):
 Calls Tryz.prog 28 #[.slice (some ⟨b,off,none⟩) len cap] w fun e w'=>e=.returned (.bool (flatOK len F))/\Below w.heap.size w w':=by
 have hb:=hat.lt;have HA:Hid (At w b off (len*6) (insF F)):=hat;clear hat;go_enter Tryz.func28,Tryz.ntmps28;go_wp2;go_loopw [16](fun i wr=>∃k:Nat,k<=len/\i=.int .i64 k/\Below w.heap.size w wr/\∀i,i<k->flatAt len F i=true)(fun i _=>len-(intOf i).toNat)
 case atStart=>exact⟨0,Nat.zero_le _,rfl,Below.refl _ _,fun i hi=>by omega⟩
 case round=>
  obtain⟨k,hk,rfl,hbr,hall⟩:=hrel;have HL:Hid (∀i,i<k->flatAt len F i=true):=hall;clear hall;by_cases hlt:k<len
  ·have g0:=(hbr.cell (p:=⟨b,off+k*6,none⟩) hb).trans ((HA.out.cell (i:=k*6+0) (by omega)).trans (congrArg some (insF_at F k 0 (by omega))))
   have g1:=(hbr.cell (p:=⟨b,off+k*6+1,none⟩) hb).trans ((HA.out.cell (i:=k*6+1) (by omega)).trans (congrArg some (insF_at F k 1 (by omega))));have g2:=(hbr.cell (p:=⟨b,off+k*6+2,none⟩) hb).trans ((HA.out.cell (i:=k*6+2) (by omega)).trans (congrArg some (insF_at F k 2 (by omega))));have g3:=(hbr.cell (p:=⟨b,off+k*6+3,none⟩) hb).trans ((HA.out.cell (i:=k*6+3) (by omega)).trans (congrArg some (insF_at F k 3 (by omega))));have g4:=(hbr.cell (p:=⟨b,off+k*6+4,none⟩) hb).trans ((HA.out.cell (i:=k*6+4) (by omega)).trans (congrArg some (insF_at F k 4 (by omega))));have g5:=(hbr.cell (p:=⟨b,off+k*6+5,none⟩) hb).trans ((HA.out.cell (i:=k*6+5) (by omega)).trans (congrArg some (insF_at F k 5 (by omega))));go_wp2_with fail;refine(implIns_any _ _ _ _ _ _ _).mono ?_;rintro e w2⟨rfl,hb2⟩;have hbr2:Below w.heap.size w w2:=(hbr.alloc hbr.size _).trans (hb2.mono (by have:=hbr.size;simp;omega));obtain⟨hc2,_⟩:=bcell hb2;have hz2:wr.heap.size<w2.heap.size:=by have:=hb2.size;simp at this;omega
   clear g0 g1 g2 g3 g4 g5;go_wp2_with(go_at_call 64;refine(jumpI_any _ _).mono ?_;rintro e w'⟨rfl,rfl⟩)
   ·go_ret
    have t1:implIns (F k 0) (F k 1) (F k 2) (F k 3) (F k 4) (F k 5)=true:=by assumption
    have t2:jumpB (F k 0)=true:=by assumption
    have t3:(len:Int)<=F k 4:=by assumption
    exact⟨ret_bool (flat_stop hlt (by simp[flatAt,t2,t3])).symm,hbr2⟩
   ·have t1:implIns (F k 0) (F k 1) (F k 2) (F k 3) (F k 4) (F k 5)=true:=by assumption
    have t3:F k 4<(len:Int):=by assumption
    go_roundw
    case rel=>exact⟨k+1,by omega,by go_num,hbr2,flat_step HL.out (by simp[flatAt,insOK,t1];omega)⟩
    case measure=>simp[intOf];omega
   ·have t1:implIns (F k 0) (F k 1) (F k 2) (F k 3) (F k 4) (F k 5)=true:=by assumption
    have t2:¬jumpB (F k 0)=true:=by assumption
    go_roundw
    case rel=>exact⟨k+1,by omega,by go_num,hbr2,flat_step HL.out (by simp[flatAt,insOK,t1,t2])⟩
    case measure=>simp[intOf];omega
   ·go_ret
    have t1:¬implIns (F k 0) (F k 1) (F k 2) (F k 3) (F k 4) (F k 5)=true:=by assumption
    exact⟨ret_bool (flat_stop hlt (by simp[flatAt,insOK,t1])).symm,hbr2⟩
  ·obtain rfl:k=len:=by omega
   have g0:=(hbr.cell (p:=⟨b,off+(k-1)*6,none⟩) hb).trans ((HA.out.cell (i:=(k-1)*6+0) (by omega)).trans (congrArg some (insF_at F (k-1) 0 (by omega))));go_wp2;go_ret;exact⟨ret_bool (flat_end h1 h2 HL.out).symm,hbr⟩
theorem eqIns_same(op d a b imm h:Int)(w:World):
 Calls Tryz.prog 50 #[.agg #[.int .i64 op,.int .i64 d,.int .i64 a,.int .i64 b,.int .i64 imm,.int .i64 h],.agg #[.int .i64 op,.int .i64 d,.int .i64 a,.int .i64 b,.int .i64 imm,.int .i64 h]] w fun e w'=>e=.returned (.bool true)/\Below w.heap.size w w':=by
 go_enter Tryz.func50,Tryz.ntmps50;go_wp2;go_ret;exact⟨rfl,((Below.refl _ _).alloc (Nat.le_refl _) _).alloc (by simp) _⟩
theorem eqInsS_same(b off len cap b' off' cap':Nat)(F:Nat->Nat->Int)(w:World)(hlen:len<=1048576)(hat:At w b off (len*6) (insF F))(hat':At w b' off' (len*6) (insF F)):
 Calls Tryz.prog 20 #[.slice (some ⟨b,off,none⟩) len cap,.slice (some ⟨b',off',none⟩) len cap'] w fun e w'=>e=.returned (.bool true)/\Below w.heap.size w w':=by
 have hb:=hat.lt;have hb':=hat'.lt;have HA:Hid (At w b off (len*6) (insF F)):=hat;have HA':Hid (At w b' off' (len*6) (insF F)):=hat';clear hat hat';go_enter Tryz.func20,Tryz.ntmps20;go_wp2;go_loopw [5](fun i wr=>∃k:Nat,k<=len/\i=.int .i64 k/\Below w.heap.size w wr)(fun i _=>len-(intOf i).toNat)
 case atStart=>exact⟨0,Nat.zero_le _,rfl,Below.refl _ _⟩
 case round=>
  obtain⟨k,hk,rfl,hbr⟩:=hrel;by_cases hlt:k<len
  ·have g0:=(hbr.cell (p:=⟨b,off+k*6,none⟩) hb).trans ((HA.out.cell (i:=k*6+0) (by omega)).trans (congrArg some (insF_at F k 0 (by omega))))
   have g1:=(hbr.cell (p:=⟨b,off+k*6+1,none⟩) hb).trans ((HA.out.cell (i:=k*6+1) (by omega)).trans (congrArg some (insF_at F k 1 (by omega))));have g2:=(hbr.cell (p:=⟨b,off+k*6+2,none⟩) hb).trans ((HA.out.cell (i:=k*6+2) (by omega)).trans (congrArg some (insF_at F k 2 (by omega))));have g3:=(hbr.cell (p:=⟨b,off+k*6+3,none⟩) hb).trans ((HA.out.cell (i:=k*6+3) (by omega)).trans (congrArg some (insF_at F k 3 (by omega))));have g4:=(hbr.cell (p:=⟨b,off+k*6+4,none⟩) hb).trans ((HA.out.cell (i:=k*6+4) (by omega)).trans (congrArg some (insF_at F k 4 (by omega))));have g5:=(hbr.cell (p:=⟨b,off+k*6+5,none⟩) hb).trans ((HA.out.cell (i:=k*6+5) (by omega)).trans (congrArg some (insF_at F k 5 (by omega))));have q0:=(hbr.cell (p:=⟨b',off'+k*6,none⟩) hb').trans ((HA'.out.cell (i:=k*6+0) (by omega)).trans (congrArg some (insF_at F k 0 (by omega))));have q1:=(hbr.cell (p:=⟨b',off'+k*6+1,none⟩) hb').trans ((HA'.out.cell (i:=k*6+1) (by omega)).trans (congrArg some (insF_at F k 1 (by omega))));have q2:=(hbr.cell (p:=⟨b',off'+k*6+2,none⟩) hb').trans ((HA'.out.cell (i:=k*6+2) (by omega)).trans (congrArg some (insF_at F k 2 (by omega))));have q3:=(hbr.cell (p:=⟨b',off'+k*6+3,none⟩) hb').trans ((HA'.out.cell (i:=k*6+3) (by omega)).trans (congrArg some (insF_at F k 3 (by omega))));have q4:=(hbr.cell (p:=⟨b',off'+k*6+4,none⟩) hb').trans ((HA'.out.cell (i:=k*6+4) (by omega)).trans (congrArg some (insF_at F k 4 (by omega))));have q5:=(hbr.cell (p:=⟨b',off'+k*6+5,none⟩) hb').trans ((HA'.out.cell (i:=k*6+5) (by omega)).trans (congrArg some (insF_at F k 5 (by omega))));have hlt':(k:Int)<(len:Int):=by omega
   go_wp2_with fail;go_region_with(go_at_call 50;refine(eqIns_same _ _ _ _ _ _ _).mono ?_;rintro e w'⟨rfl,hb2⟩);all_goals
    clear g0 g1 g2 g3 g4 g5 q0 q1 q2 q3 q4 q5;go_wp2;go_roundw
    case rel=>exact⟨k+1,by omega,by go_num,hbr.drew.trans (hb2.mono hbr.size)⟩
    case measure=>simp[intOf];omega
  ·go_wp2
   go_ret;exact⟨rfl,hbr⟩
theorem toInsS_nil(ao:Option Addr)(cap:Nat)(F:Nat->Nat->Int)(w:World):
 Calls Tryz.prog 17 #[.slice ao 0 cap] w fun e w'=>e=.returned (.slice (some ⟨w.heap.size,0,none⟩) 0 0)/\Below w.heap.size w w'/\Arr w' w.heap.size (0*6) (insF F):=by
 obtain⟨i0,hi,hz0,hz1,hz2⟩:=info_parts info_iIns;go_enter Tryz.func17,Tryz.ntmps17;go_wp2_with(first|(at_make;refine wpList_make_full _ rfl _ _ 23 rfl w.heap.size 73 i0 _ 6 Tryz.underlying23 hi hz0 hz1 .i64 .i64 _ _ 0 rfl rfl ?c1 ?c2 ?c3 ?c4 ?c5 ?_)|go_in)
 case c1=>rfl
 case c2=>rfl
 case c3=>rw[hz2];omega
 case c4=>unfold maxLen;omega
 case c5=>exact Nat.le_refl _
 ·intro w1 hown hgrow
  have hbel:Below w.heap.size w w1:=(Below.refl _ _).grown hgrow (Nat.le_refl _) (by intro k hk;cases hk);have harr:Arr w1 w.heap.size (0*6) (insF F):=Arr.made hown fun i hi=>by omega
  have HX:Hid (Below w.heap.size w w1/\Arr w1 w.heap.size (0*6) (insF F)):=⟨hbel,harr⟩
  clear hown hgrow hi hz0 hz1 hz2 hbel harr;go_wp2;refine wp_loop_rounds 1 ?_;rw[rounds_succ];go_wp2;go_ret;exact⟨rfl,HX.out.1,HX.out.2⟩
theorem toInsS_in(ao:Option Addr)(len cap:Nat)(F:Nat->Nat->Int)(w:World)(hlen:len<=1048576)(h:InRow w ao (len*6) (insF F)):
 Calls Tryz.prog 17 #[.slice ao len cap] w fun e w'=>e=.returned (.slice (some ⟨w.heap.size,0,none⟩) len len)/\Below w.heap.size w w'/\Arr w' w.heap.size (len*6) (insF F):=by
 rcases h with h|⟨b,off,rfl,h⟩
 ·obtain rfl:len=0:=by omega
  exact toInsS_nil ao cap F w
 ·exact toInsS_any b off len cap F w hlen h
theorem specFlat_any(b off len cap:Nat)(F:Nat->Nat->Int)(w:World)(hm:len<=1048576)(hat:At w b off (len*6) (insF F)):
 Calls Tryz.prog 11 #[.slice (some ⟨b,off,none⟩) len cap] w fun e w'=>e=.returned (.bool (flatOK len F))/\Below w.heap.size w w':=by
 by_cases h:len<1∨2000<len
 ·exact specFlat_bad _ _ _ F w h hm
 ·exact specFlat_at b off len cap F w (by omega) (by omega) hat
theorem implFlat_any(b off len cap:Nat)(F:Nat->Nat->Int)(w:World)(hm:len<=1048576)(hat:At w b off (len*6) (insF F)):
 Calls Tryz.prog 28 #[.slice (some ⟨b,off,none⟩) len cap] w fun e w'=>e=.returned (.bool (flatOK len F))/\Below w.heap.size w w':=by
 by_cases h:len<1∨2000<len
 ·exact implFlat_bad _ _ _ F w h hm
 ·exact implFlat_at b off len cap F w (by omega) (by omega) hat
theorem szInsS_ok(ao:Option Addr)(len cap:Nat)(left:Int)(w:World)(hlo:(len:Int)<=left)(hhi:left<=1048576):
 Calls Tryz.prog 14 #[.slice ao len cap,.int .i64 left] w fun e w'=>e=.returned (.int .i64 (left-len))/\w'=w:=by
 go_enter Tryz.func14,Tryz.ntmps14;go_wp2;go_ret;exact⟨rfl,rfl⟩
theorem szInsS_no(ao:Option Addr)(len cap:Nat)(left:Int)(w:World)(h0:0<=left)(hlo:left<(len:Int))(hm:len<=9223372036854775807):
 Calls Tryz.prog 14 #[.slice ao len cap,.int .i64 left] w fun e w'=>e=.returned (.int .i64 (-1))/\w'=w:=by
 go_enter Tryz.func14,Tryz.ntmps14;go_wp2;go_ret;exact⟨rfl,rfl⟩
end Go.Proofs.YtpbceodheeepoaaGreat
namespace Go.Proofs.YtpbceodheeepoaaGreat
open Go.ChangeShapes Go.WideShapes Go.ChangeAt Go.RowKit Go.Deep
theorem cellsLIns:Tryz.prog.cellsOf 82=6:=by kernel_rfl
theorem cellsI64:Tryz.prog.cellsOf 2=1:=by kernel_rfl
theorem ins_cells{H:Type}{enc:TypeId×Value->H}{w:World}{base:Nat}{spare:Nat->Bool}{held:Bool}{fuel:Nat}{cs:List Value}{x:DataW H×List MemPlace}
 (h:DataW.trod enc Tryz.prog w base spare held fuel 82 cs=some x):
 ∃op d a b imm hh:Int,cs=[.int .i64 op,.int .i64 d,.int .i64 a,.int .i64 b,.int .i64 imm,.int .i64 hh]/\(Lit.int .i64 op).wf=true/\(Lit.int .i64 d).wf=true/\(Lit.int .i64 a).wf=true/\(Lit.int .i64 b).wf=true/\(Lit.int .i64 imm).wf=true/\(Lit.int .i64 hh).wf=true:=by
 obtain⟨xs,n,_,_,hl,hlen,hf⟩:=DataW.trod_struct Tryz.underlying82 h;rw[cellsLIns]at hl;match cs,hl with
 |[c0,c1,c2,c3,c4,c5],_=>
  match xs,hlen with
  |[y0,y1,y2,y3,y4,y5],_=>
   have h0:=hf 0 _ rfl;have h1:=hf 1 _ rfl;have h2:=hf 2 _ rfl;have h3:=hf 3 _ rfl;have h4:=hf 4 _ rfl;have h5:=hf 5 _ rfl;simp[cellsI64]at h0 h1 h2 h3 h4 h5;obtain⟨n0,e0,_,w0⟩:=DataW.trod_int Tryz.underlying2 h0;obtain⟨n1,e1,_,w1⟩:=DataW.trod_int Tryz.underlying2 h1;obtain⟨n2,e2,_,w2⟩:=DataW.trod_int Tryz.underlying2 h2;obtain⟨n3,e3,_,w3⟩:=DataW.trod_int Tryz.underlying2 h3;obtain⟨n4,e4,_,w4⟩:=DataW.trod_int Tryz.underlying2 h4;obtain⟨n5,e5,_,w5⟩:=DataW.trod_int Tryz.underlying2 h5;simp at e0 e1 e2 e3 e4 e5;subst e0 e1 e2 e3 e4 e5;exact⟨_,_,_,_,_,_,rfl,w0,w1,w2,w3,w4,w5⟩
theorem open_insS{H:Type}{enc:TypeId×Value->H}{w:World}{base:Nat}{spare:Nat->Bool}{held:Bool}{fuel:Nat}{ao:Option Addr}{len cap:Nat}{x:DataW H×List MemPlace}
 (h:DataW.trod enc Tryz.prog w base spare held fuel 38 [.slice ao len cap]=some x):len<=maxLen/\∃F,InRow w ao (len*6) (insF F):=by
 obtain⟨hm,f,hin,hel⟩:=open_row Tryz.underlying38 cellsLIns (by omega) h;refine⟨hm,?_⟩;obtain⟨G,hG⟩:=choose_lt (n:=len) (p:=fun i(g:Nat->Int)=>∀j,j<6->f (i*6+j)=.int .i64 (g j)) (fun i hi=>by
  obtain⟨n,y,hy⟩:=hel i hi;obtain⟨op,d,a,b,imm,hh,e,_⟩:=ins_cells hy;refine⟨fun j=>[op,d,a,b,imm,hh].getD j 0,fun j hj=>?_⟩;simp[List.range,List.range.loop]at e;obtain⟨e0,e1,e2,e3,e4,e5⟩:=e;match j,hj with
  |0,_=>simpa using e0
  |1,_=>simpa using e1
  |2,_=>simpa using e2
  |3,_=>simpa using e3
  |4,_=>simpa using e4
  |5,_=>simpa using e5)
 refine⟨G,hin.congr fun p hp=>?_⟩;have h1:p/6<len:=by omega
 have:=hG (p/6) h1 (p%6) (by omega);rw[show p/6*6+p%6=p by omega]at this;rw[this];rfl
end Go.Proofs.YtpbceodheeepoaaGreat
