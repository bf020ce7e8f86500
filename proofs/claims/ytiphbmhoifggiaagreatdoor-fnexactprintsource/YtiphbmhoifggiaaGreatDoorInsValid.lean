import Derived.Test.YtiphbmhoifggiaaGreatDoorInsLeaf
set_option maxHeartbeats 400000
namespace Go.Proofs.YtiphbmhoifggiaaGreatDoor
open Go.RowKit
def hasN(s:ByteArray)(n:Int):Bool:=hasB s (UInt8.ofNat n.toNat)
theorem has_n(s:ByteArray)(n:Int)(w:World)(hs:s.size<=maxLen)(h0:0<=n)(h1:n<=255):
 Calls Tryz.prog 90 #[.string s,.int .u8 n] w fun e w'=>e=.returned (.bool (hasN s n))/\w'=w:=by
 have:=has_any s (UInt8.ofNat n.toNat) w hs;rw[show((UInt8.ofNat n.toNat).toNat:Int)=n from by simp;omega]at this;exact this
theorem uses_le(op:Int):(usesS op).size<=maxLen:=by
 unfold usesS usesL maxLen;repeat' split
 all_goals decide
def specIns(op d a b imm h:Int):Bool:=
 inB op 1 34&&(hasN (usesS op) 68||d==0)&&(hasN (usesS op) 65||a==0)&&(hasN (usesS op) 66||b==0)&&(hasN (usesS op) 73||imm==0)&&(hasN (usesS op) 72||h==0)&&
  inB d 0 7&&inB a 0 7&&inB b 0 7&&inB h 0 7&&inB imm (immLo op) (immHi op)
def bitB(op k:Int):Bool:=bits BinOp.and IntKind.i64 (fieldsI op) k !=0
def implIns(op d a b imm h:Int):Bool:=
 inB op 1 34&&fieldB (bitB op 1) d 0 7&&fieldB (bitB op 2) a 0 7&&fieldB (bitB op 4) b 0 7&&fieldB (bitB op 8) imm (immLo op) (immHi op)&&fieldB (bitB op 16) h 0 7
theorem implIns_any(op d a b imm h:Int)(w:World):
 Calls Tryz.prog 105 #[.agg #[.int .i64 op,.int .i64 d,.int .i64 a,.int .i64 b,.int .i64 imm,.int .i64 h]] w fun e w'=>e=.returned (.bool (implIns op d a b imm h))/\Below w.heap.size w w':=by
 by_cases hr:1<=op/\op<=34
 ·obtain⟨h1,h2⟩:=hr
  go_enter Tryz.func105,Tryz.ntmps105;go_wp2_with(first|(go_at_call 102;refine(fields_any _ _).mono ?_;rintro e w'⟨rfl,rfl⟩)|(go_at_call 118;refine(bounds_any _ _).mono ?_;rintro e w'⟨rfl,rfl⟩)|(go_at_call 119;refine(field_any _ _ _ _ _).mono ?_;rintro e w'⟨rfl,rfl⟩));all_goals(go_ret;refine⟨ret_bool ?_,(Below.refl _ _).alloc (Nat.le_refl _) _⟩;simp_all[implIns,bitB,inB])
 ·by_cases h1:1<=op
  ·have h2:34<op:=by omega
   go_enter Tryz.func105,Tryz.ntmps105;go_wp2;go_ret;refine⟨ret_bool ?_,(Below.refl _ _).alloc (Nat.le_refl _) _⟩;have:inB op 1 34=false:=by simp[inB];omega
   simp[implIns,this]
  ·have h2:op<1:=by omega
   go_enter Tryz.func105,Tryz.ntmps105;go_wp2;go_ret;refine⟨ret_bool ?_,(Below.refl _ _).alloc (Nat.le_refl _) _⟩;have:inB op 1 34=false:=by simp[inB];omega
   simp[implIns,this]
theorem toIns_any(op d a b imm h:Int)(w:World):
 Calls Tryz.prog 104 #[.agg #[.int .i64 op,.int .i64 d,.int .i64 a,.int .i64 b,.int .i64 imm,.int .i64 h]] w fun e w'=>e=.returned (.agg #[.int .i64 op,.int .i64 d,.int .i64 a,.int .i64 b,.int .i64 imm,.int .i64 h])/\Below w.heap.size w w':=by
 go_enter Tryz.func104,Tryz.ntmps104;go_wp2;exact bodyPost_ret (v:=.agg #[.int .i64 op,.int .i64 d,.int .i64 a,.int .i64 b,.int .i64 imm,.int .i64 h]) (by simp[results,Tryz.results104,go_sem]) rfl ⟨rfl,(((Below.refl _ _).alloc (Nat.le_refl _) _).alloc (by simp) _).alloc (by simp;omega) _⟩
end Go.Proofs.YtiphbmhoifggiaaGreatDoor
