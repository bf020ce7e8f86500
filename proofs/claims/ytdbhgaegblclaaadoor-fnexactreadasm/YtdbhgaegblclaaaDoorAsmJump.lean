import Derived.Test.YtdbhgaegblclaaaDoorAsmParts
set_option maxHeartbeats 1600000
namespace Go.Proofs.YtdbhgaegblclaaaDoor
open Go.RowKit
theorem Arr.setJ{w:World}{b n:Nat}{f:Nat->Value}(h:Arr w b n f)(o:Nat)(ho:o<n)(v:Value):Arr (w.setCell ⟨b,o,none⟩ v) b n (fun i=>if i=o then v else f i):=by
 have:=h.setCells o [v] (by simp;omega);refine Arr.congr (f:=fun i=>if o<=i/\i<o+[v].length then[v].getD (i-o) undef else f i) this fun i _=>?_
 by_cases e:i=o
 ·subst e;simp
 ·rw[if_neg (by simp;omega),if_neg e]
theorem jump_in{len:Nat}{F:Nat->Nat->Int}{k:Nat}(h:flatAt len F k=true)(hj:jumpB (F k 0)=true):∃t:Nat,F k 4=(t:Int)/\t<len:=by
 unfold flatAt insOK implIns at h;rw[hj]at h;simp only[Bool.and_eq_true,Bool.true_and,Bool.not_eq_true',decide_eq_false_iff_not]at h;obtain⟨⟨⟨⟨⟨⟨h0,h1⟩,h2⟩,h3⟩,h4⟩,h5⟩,h6⟩:=h;have hlo:immLo (F k 0)=0:=by
  unfold jumpB at hj;simp only[Bool.and_eq_true,decide_eq_true_eq]at hj;unfold immLo;rw[if_pos (by omega)]
 rw[hlo]at h4;have h7:0<=F k 4:=by
  unfold fieldB inB at h4;split at h4
  ·simp only[Bool.and_eq_true,decide_eq_true_eq]at h4;omega
  ·rw[beq_iff_eq]at h4;omega
 exact⟨(F k 4).toNat,by omega,by omega⟩
theorem info_bool:(Tryd.prog.info? 4).map (fun i=>(i.zero,i.size,i.bytes))=some (some (.bool false),1,1):=by kernel_rfl
theorem jumpTargets_any(b off len cap:Nat)(F:Nat->Nat->Int)(w:World)(hat:At w b off (len*6) (insF F))(hok:flatOK len F=true):
 Calls Tryd.prog 32 #[.slice (some ⟨b,off,none⟩) len cap] w fun e w'=>e=.returned (.slice (some ⟨w.heap.size,0,none⟩) len len)/\Below w.heap.size w w'/\Arr w' w.heap.size len (fun j=>.bool (reachB F j len)):=by
 obtain⟨i0,hi,hz0,hz1,hz2⟩:=info_parts info_bool;have hb:=hat.lt;have HA:Hid (At w b off (len*6) (insF F)):=hat;have HOK:Hid (flatOK len F=true):=hok;have hl2:=(flat_parts hok).2.1;clear hat hok;go_enter Tryd.func32,Tryd.ntmps32;go_wp2_with(first|(at_make;refine wpList_make_full _ rfl _ _ 53 rfl w.heap.size 4 i0 _ 1 Tryd.underlying53 hi hz0 hz1 .i64 .i64 _ _ len rfl rfl ?c1 ?c2 ?c3 ?c4 ?c5 ?_))
 case c1=>rfl
 case c2=>rfl
 case c3=>rw[hz2];omega
 case c4=>unfold maxLen;omega
 case c5=>exact Nat.le_refl _
 intro w1 hown hgrow;have hbel:Below w.heap.size w w1:=(Below.refl _ _).grown hgrow (Nat.le_refl _) (by intro k hk;cases hk);have harr:Arr w1 w.heap.size len (fun j=>.bool (reachB F j 0)):=by
  have h1:Arr w1 w.heap.size (len*1) (fun j=>.bool (reachB F j 0)):=Arr.made hown fun i hi=>by
   have hi':i<len:=by omega
   rw[made_get _ _ _ hi'];show some ((#[Value.bool false]:Array Value)[i%1]!)=_;have:i%1=0:=by omega
   rw[this];rfl
  rwa [Nat.mul_one]at h1
 clear hown hgrow hi hz0 hz1 hz2;go_wp2_with fail;go_loopw [5,11](fun _ j wr=>∃k:Nat,k<=len/\j=.int .i64 k/\Below w.heap.size w wr/\Arr wr w.heap.size len (fun j=>.bool (reachB F j k)))(fun _ j _=>len-(intOf j).toNat)
 case atStart=>exact⟨0,Nat.zero_le _,rfl,hbel,harr⟩
 case round=>
  clear harr hbel;obtain⟨k,hk,rfl,hbr,har⟩:=hrel;have HAR:Hid (Arr wr w.heap.size len (fun j=>.bool (reachB F j k))):=har;have hzr:=har.lt;clear har;by_cases hlt:k<len
  rotate_left
  ·obtain rfl:k=len:=by omega
   go_wp2_with fail;go_ret;exact⟨rfl,hbr,HAR.out⟩
  have hl1:(k:Int)<len:=by omega
  have g0:=(hbr.cell (p:=⟨b,off+k*6,none⟩) hb).trans ((HA.out.cell (i:=k*6+0) (by omega)).trans (congrArg some (insF_at F k 0 (by omega))));have g1:=(hbr.cell (p:=⟨b,off+k*6+1,none⟩) hb).trans ((HA.out.cell (i:=k*6+1) (by omega)).trans (congrArg some (insF_at F k 1 (by omega))));have g2:=(hbr.cell (p:=⟨b,off+k*6+2,none⟩) hb).trans ((HA.out.cell (i:=k*6+2) (by omega)).trans (congrArg some (insF_at F k 2 (by omega))));have g3:=(hbr.cell (p:=⟨b,off+k*6+3,none⟩) hb).trans ((HA.out.cell (i:=k*6+3) (by omega)).trans (congrArg some (insF_at F k 3 (by omega))));have g4:=(hbr.cell (p:=⟨b,off+k*6+4,none⟩) hb).trans ((HA.out.cell (i:=k*6+4) (by omega)).trans (congrArg some (insF_at F k 4 (by omega))));have g5:=(hbr.cell (p:=⟨b,off+k*6+5,none⟩) hb).trans ((HA.out.cell (i:=k*6+5) (by omega)).trans (congrArg some (insF_at F k 5 (by omega))));go_upto_region 4 with fail;go_cut [5](fun s5 wx=>s5=.pointer (some ⟨wr.heap.size,0,none⟩)/\Below wr.heap.size wr wx/\wx.cell? ⟨wr.heap.size,0,none⟩=some (.int .i64 (F k 0))/\wx.cell? ⟨wr.heap.size,4,none⟩=some (.int .i64 (F k 4)))
  case first=>
   go_wp2_with fail;go_meet;exact⟨rfl,(Below.refl _ _).alloc (Nat.le_refl _) _,by simp[go_sem],by simp[go_sem]⟩
  case rest=>
   obtain⟨rfl,hbx,x0,x4⟩:=hcut;clear g0 g1 g2 g3 g4 g5;have hB2:Below w.heap.size w wc:=hbr.trans (hbx.mono hbr.size);have A2:Hid (Arr wc w.heap.size len (fun j=>.bool (reachB F j k))):=HAR.out.below hbx hzr;have RS:Hid (∀j,reachB F j (k+1)=(reachB F j k||(jumpB (F k 0)&&(F k 4==(j:Int))))):=fun j=>reach_step F j k
   cases hj:jumpB (F k 0)with
   |false=>
    go_wp2_with(first|(go_at_call 38;refine(jumpI_any _ _).mono ?_;rintro e w2⟨rfl,hw2⟩;rw[hw2,hj];clear hw2));go_roundw
    case rel=>exact⟨k+1,by omega,by go_num,hB2,A2.out.congr fun j _=>by rw[RS.out,hj];simp⟩
    case measure=>simp[intOf];omega
   |true=>
    obtain⟨t,ht,htl⟩:=jump_in ((flat_parts HOK.out).2.2 k hlt) hj;have HT4:Hid (F k 4=(t:Int)):=ht;rw[ht]at x4;have ht1:(t:Int)<len:=by omega
    have ff:=A2.out.free t;have fc:=A2.out.cell htl;clear ht;go_wp2_with(first|(go_at_call 38;refine(jumpI_any _ _).mono ?_;rintro e w2⟨rfl,hw2⟩;rw[hw2,hj];clear hw2));go_roundw
    case rel=>
     refine⟨k+1,by omega,by go_num,hB2.setCell (Nat.le_refl _) _,(A2.out.setJ t htl (.bool true)).congr fun j _=>?_⟩;rw[RS.out,hj,HT4.out];by_cases e:j=t
     ·subst e;simp
     ·have:((t:Int)==(j:Int))=false:=by rw[beq_eq_false_iff_ne];omega
      rw[this];simp[e]
    case measure=>simp[intOf];omega
end Go.Proofs.YtdbhgaegblclaaaDoor
