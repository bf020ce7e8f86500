import Derived.Test.YtbahofiiaodpdaaGreatRows
import Derived.Test.YtbahofiiaodpdaaGreatOfCl
import Derived.WalkKit
import Derived.WalkSpells
import Derived.WalkLawsBesides
set_option maxHeartbeats 800000
namespace Go.Proofs.YtbahofiiaodpdaaGreat
open Go.RowKit
theorem uses_any(op:Int)(w:World):
 Calls Tryz.prog 24 #[.int .i64 op] w fun e w'=>e=.returned (.string (usesS op))/\w'=w:=by
 go_enter Tryz.func24,Tryz.ntmps24;go_wp2;all_goals(go_ret;refine⟨ret_str ?_,rfl⟩;simp_all[usesS,usesL])
theorem fields_any(op:Int)(w:World):
 Calls Tryz.prog 61 #[.int .i64 op] w fun e w'=>e=.returned (.int .i64 (fieldsI op))/\w'=w:=by
 go_enter Tryz.func61,Tryz.ntmps61;go_wp2;all_goals(go_ret;refine⟨ret_int ?_,rfl⟩;simp_all[fieldsI])
theorem bounds_any(op:Int)(w:World):
 Calls Tryz.prog 62 #[.int .i64 op] w fun e w'=>e=.returned (.tuple #[.int .i64 (immLo op),.int .i64 (immHi op)])/\w'=w:=by
 go_enter Tryz.func62,Tryz.ntmps62;go_wp2;all_goals(go_ret2;refine⟨ret_int2 ?_ ?_,rfl⟩<;>simp_all[immLo,immHi]<;>omega)
theorem jump_any(op:Int)(w:World):
 Calls Tryz.prog 48 #[.int .i64 op] w fun e w'=>e=.returned (.bool (jumpB op))/\w'=w:=by
 go_enter Tryz.func48,Tryz.ntmps48;go_wp2;all_goals(go_ret;refine⟨ret_bool ?_,rfl⟩;simp[jumpB]<;>omega)
theorem jumpI_any(op:Int)(w:World):
 Calls Tryz.prog 73 #[.int .i64 op] w fun e w'=>e=.returned (.bool (jumpB op))/\w'=w:=by
 go_enter Tryz.func73,Tryz.ntmps73;go_wp2;all_goals(go_ret;refine⟨ret_bool ?_,rfl⟩;simp[jumpB]<;>omega)
theorem in_any(x lo hi:Int)(w:World):
 Calls Tryz.prog 36 #[.int .i64 x,.int .i64 lo,.int .i64 hi] w fun e w'=>e=.returned (.bool (inB x lo hi))/\w'=w:=by
 go_enter Tryz.func36,Tryz.ntmps36;go_wp2;all_goals(go_ret;refine⟨ret_bool ?_,rfl⟩;simp[inB]<;>omega)
theorem field_any(u:Bool)(x lo hi:Int)(w:World):
 Calls Tryz.prog 63 #[.bool u,.int .i64 x,.int .i64 lo,.int .i64 hi] w fun e w'=>e=.returned (.bool (fieldB u x lo hi))/\w'=w:=by
 go_enter Tryz.func63,Tryz.ntmps63;go_wp2;all_goals(go_ret;refine⟨ret_bool ?_,rfl⟩;cases u<;>simp_all[fieldB,inB]<;>omega)
theorem has_any(s:ByteArray)(b:UInt8)(w:World)(hs:s.size<=maxLen):
 Calls Tryz.prog 25 #[.string s,.int .u8 b.toNat] w fun e w'=>e=.returned (.bool (hasB s b))/\w'=w:=by
 unfold maxLen at hs;go_enter Tryz.func25,Tryz.ntmps25;go_wp2;go_loop [5](fun i=>∃k:Nat,k<=s.size/\i=.int .i64 k/\(s.data.toList.take k).contains b=false)(fun i=>s.size-(intOf i).toNat)
 case atStart=>exact⟨0,Nat.zero_le _,rfl,rfl⟩
 case round=>
  obtain⟨k,hk,rfl,hno⟩:=hrel;have HN:Hid ((s.data.toList.take k).contains b=false):=hno;clear hno;by_cases hlt:k<s.size
  ·have HT:Hid (s.data.toList.take (k+1)=s.data.toList.take k++[s[k]]):=take_snoc s k hlt
   go_wp2
   ·go_ret
    refine⟨ret_bool ?_,rfl⟩;have h:((s[k].toNat:Int)==(b.toNat:Int))=true:=by assumption
    exact(has_yes s b k hlt h).symm
   ·go_round
    case rel=>exact⟨k+1,by omega,by go_num,has_no s b k HN.out HT.out (by assumption)⟩
    case measure=>simp[intOf];omega
  ·go_wp2
   go_ret;exact⟨ret_bool (has_end s b k hk (by omega) HN.out).symm,rfl⟩
def hasN(s:ByteArray)(n:Int):Bool:=hasB s (UInt8.ofNat n.toNat)
theorem has_n(s:ByteArray)(n:Int)(w:World)(hs:s.size<=maxLen)(h0:0<=n)(h1:n<=255):
 Calls Tryz.prog 25 #[.string s,.int .u8 n] w fun e w'=>e=.returned (.bool (hasN s n))/\w'=w:=by
 have:=has_any s (UInt8.ofNat n.toNat) w hs;rw[show((UInt8.ofNat n.toNat).toNat:Int)=n from by simp;omega]at this;exact this
theorem uses_le(op:Int):(usesS op).size<=maxLen:=by
 unfold usesS usesL maxLen;repeat' split
 all_goals decide
def specIns(op d a b imm h:Int):Bool:=
 inB op 1 34&&(hasN (usesS op) 68||d==0)&&(hasN (usesS op) 65||a==0)&&(hasN (usesS op) 66||b==0)&&(hasN (usesS op) 73||imm==0)&&(hasN (usesS op) 72||h==0)&&
  inB d 0 7&&inB a 0 7&&inB b 0 7&&inB h 0 7&&inB imm (immLo op) (immHi op)
def bitB(op k:Int):Bool:=bits BinOp.and IntKind.i64 (fieldsI op) k !=0
def implIns(op d a b imm h:Int):Bool:=
 inB op 1 34&&fieldB (bitB op 1) d 0 7&&fieldB (bitB op 2) a 0 7&&fieldB (bitB op 4) b 0 7&&fieldB (bitB op 8) imm (immLo op) (immHi op)&&fieldB (bitB op 16) h 0 7
theorem implIns_any(op d a b imm h:Int)(w:World):
 Calls Tryz.prog 31 #[.agg #[.int .i64 op,.int .i64 d,.int .i64 a,.int .i64 b,.int .i64 imm,.int .i64 h]] w fun e w'=>e=.returned (.bool (implIns op d a b imm h))/\Below w.heap.size w w':=by
 by_cases hr:1<=op/\op<=34
 ·obtain⟨h1,h2⟩:=hr
  go_enter Tryz.func31,Tryz.ntmps31;go_wp2_with(first|(go_at_call 61;refine(fields_any _ _).mono ?_;rintro e w'⟨rfl,rfl⟩)|(go_at_call 62;refine(bounds_any _ _).mono ?_;rintro e w'⟨rfl,rfl⟩)|(go_at_call 63;refine(field_any _ _ _ _ _).mono ?_;rintro e w'⟨rfl,rfl⟩));all_goals(go_ret;refine⟨ret_bool ?_,(Below.refl _ _).alloc (Nat.le_refl _) _⟩;simp_all[implIns,bitB,inB])
 ·by_cases h1:1<=op
  ·have h2:34<op:=by omega
   go_enter Tryz.func31,Tryz.ntmps31;go_wp2;go_ret;refine⟨ret_bool ?_,(Below.refl _ _).alloc (Nat.le_refl _) _⟩;have:inB op 1 34=false:=by simp[inB];omega
   simp[implIns,this]
  ·have h2:op<1:=by omega
   go_enter Tryz.func31,Tryz.ntmps31;go_wp2;go_ret;refine⟨ret_bool ?_,(Below.refl _ _).alloc (Nat.le_refl _) _⟩;have:inB op 1 34=false:=by simp[inB];omega
   simp[implIns,this]
theorem specIns_da(op d a b imm h:Int)(w:World)(h1:1<=op)(h2:op<=34)(hr:inB op 1 34=true)(kD:hasN (usesS op) 68=true)(kA:hasN (usesS op) 65=true)(kB:hasN (usesS op) 66=false)(kI:hasN (usesS op) 73=false)(kH:hasN (usesS op) 72=false)
 (kx:(op==11)=false)(ky:(op==12)=false)(kz:(op==13)=false)(kj:jumpB op=false)(kl:immLo op=(-1000000))(kh:immHi op=1000000):
 Calls Tryz.prog 21 #[.agg #[.int .i64 op,.int .i64 d,.int .i64 a,.int .i64 b,.int .i64 imm,.int .i64 h]] w fun e w'=>e=.returned (.bool (specIns op d a b imm h))/\Below w.heap.size w w':=by
 go_enter Tryz.func21,Tryz.ntmps21;go_wp2_with(first|(go_at_call 24;refine(uses_any _ _).mono ?_;rintro e w'⟨rfl,rfl⟩)|(go_at_call 25;refine(has_n _ _ _ (uses_le _) (by decide) (by decide)).mono ?_;rintro e w'⟨rfl,rfl⟩)|(go_at_call 48;refine(jump_any _ _).mono ?_;rintro e w'⟨rfl,rfl⟩)|(go_at_call 36;refine(in_any _ _ _ _).mono ?_;rintro e w'⟨rfl,rfl⟩));all_goals(go_ret;refine⟨ret_bool ?_,(Below.refl _ _).alloc (Nat.le_refl _) _⟩;simp_all[specIns])
theorem specIns_di(op d a b imm h:Int)(w:World)(h1:1<=op)(h2:op<=34)(hr:inB op 1 34=true)(kD:hasN (usesS op) 68=true)(kA:hasN (usesS op) 65=false)(kB:hasN (usesS op) 66=false)(kI:hasN (usesS op) 73=true)(kH:hasN (usesS op) 72=false)
 (kx:(op==11)=false)(ky:(op==12)=false)(kz:(op==13)=false)(kj:jumpB op=false)(kl:immLo op=(-1000000))(kh:immHi op=1000000):
 Calls Tryz.prog 21 #[.agg #[.int .i64 op,.int .i64 d,.int .i64 a,.int .i64 b,.int .i64 imm,.int .i64 h]] w fun e w'=>e=.returned (.bool (specIns op d a b imm h))/\Below w.heap.size w w':=by
 go_enter Tryz.func21,Tryz.ntmps21;go_wp2_with(first|(go_at_call 24;refine(uses_any _ _).mono ?_;rintro e w'⟨rfl,rfl⟩)|(go_at_call 25;refine(has_n _ _ _ (uses_le _) (by decide) (by decide)).mono ?_;rintro e w'⟨rfl,rfl⟩)|(go_at_call 48;refine(jump_any _ _).mono ?_;rintro e w'⟨rfl,rfl⟩)|(go_at_call 36;refine(in_any _ _ _ _).mono ?_;rintro e w'⟨rfl,rfl⟩));all_goals(go_ret;refine⟨ret_bool ?_,(Below.refl _ _).alloc (Nat.le_refl _) _⟩;simp_all[specIns])
theorem specIns_dai(op d a b imm h:Int)(w:World)(h1:1<=op)(h2:op<=34)(hr:inB op 1 34=true)(kD:hasN (usesS op) 68=true)(kA:hasN (usesS op) 65=true)(kB:hasN (usesS op) 66=false)(kI:hasN (usesS op) 73=true)(kH:hasN (usesS op) 72=false)
 (kx:(op==11)=false)(ky:(op==12)=false)(kz:(op==13)=false)(kj:jumpB op=false)(kl:immLo op=(-1000000))(kh:immHi op=1000000):
 Calls Tryz.prog 21 #[.agg #[.int .i64 op,.int .i64 d,.int .i64 a,.int .i64 b,.int .i64 imm,.int .i64 h]] w fun e w'=>e=.returned (.bool (specIns op d a b imm h))/\Below w.heap.size w w':=by
 go_enter Tryz.func21,Tryz.ntmps21;go_wp2_with(first|(go_at_call 24;refine(uses_any _ _).mono ?_;rintro e w'⟨rfl,rfl⟩)|(go_at_call 25;refine(has_n _ _ _ (uses_le _) (by decide) (by decide)).mono ?_;rintro e w'⟨rfl,rfl⟩)|(go_at_call 48;refine(jump_any _ _).mono ?_;rintro e w'⟨rfl,rfl⟩)|(go_at_call 36;refine(in_any _ _ _ _).mono ?_;rintro e w'⟨rfl,rfl⟩));all_goals(go_ret;refine⟨ret_bool ?_,(Below.refl _ _).alloc (Nat.le_refl _) _⟩;simp_all[specIns])
theorem specIns_dai11(op d a b imm h:Int)(w:World)(h1:1<=op)(h2:op<=34)(hr:inB op 1 34=true)(kD:hasN (usesS op) 68=true)(kA:hasN (usesS op) 65=true)(kB:hasN (usesS op) 66=false)(kI:hasN (usesS op) 73=true)(kH:hasN (usesS op) 72=false)
 (kx:(op==11)=true)(ky:(op==12)=false)(kz:(op==13)=false)(kj:jumpB op=false)(kl:immLo op=0)(kh:immHi op=1000000):
 Calls Tryz.prog 21 #[.agg #[.int .i64 op,.int .i64 d,.int .i64 a,.int .i64 b,.int .i64 imm,.int .i64 h]] w fun e w'=>e=.returned (.bool (specIns op d a b imm h))/\Below w.heap.size w w':=by
 go_enter Tryz.func21,Tryz.ntmps21;go_wp2_with(first|(go_at_call 24;refine(uses_any _ _).mono ?_;rintro e w'⟨rfl,rfl⟩)|(go_at_call 25;refine(has_n _ _ _ (uses_le _) (by decide) (by decide)).mono ?_;rintro e w'⟨rfl,rfl⟩)|(go_at_call 48;refine(jump_any _ _).mono ?_;rintro e w'⟨rfl,rfl⟩)|(go_at_call 36;refine(in_any _ _ _ _).mono ?_;rintro e w'⟨rfl,rfl⟩));all_goals(go_ret;refine⟨ret_bool ?_,(Below.refl _ _).alloc (Nat.le_refl _) _⟩;simp_all[specIns])
theorem specIns_dai12(op d a b imm h:Int)(w:World)(h1:1<=op)(h2:op<=34)(hr:inB op 1 34=true)(kD:hasN (usesS op) 68=true)(kA:hasN (usesS op) 65=true)(kB:hasN (usesS op) 66=false)(kI:hasN (usesS op) 73=true)(kH:hasN (usesS op) 72=false)
 (kx:(op==11)=false)(ky:(op==12)=true)(_kz:(op==13)=false)(kj:jumpB op=false)(kl:immLo op=0)(kh:immHi op=63):
 Calls Tryz.prog 21 #[.agg #[.int .i64 op,.int .i64 d,.int .i64 a,.int .i64 b,.int .i64 imm,.int .i64 h]] w fun e w'=>e=.returned (.bool (specIns op d a b imm h))/\Below w.heap.size w w':=by
 go_enter Tryz.func21,Tryz.ntmps21;go_wp2_with(first|(go_at_call 24;refine(uses_any _ _).mono ?_;rintro e w'⟨rfl,rfl⟩)|(go_at_call 25;refine(has_n _ _ _ (uses_le _) (by decide) (by decide)).mono ?_;rintro e w'⟨rfl,rfl⟩)|(go_at_call 48;refine(jump_any _ _).mono ?_;rintro e w'⟨rfl,rfl⟩)|(go_at_call 36;refine(in_any _ _ _ _).mono ?_;rintro e w'⟨rfl,rfl⟩));all_goals(go_ret;refine⟨ret_bool ?_,(Below.refl _ _).alloc (Nat.le_refl _) _⟩;simp_all[specIns])
theorem specIns_dai13(op d a b imm h:Int)(w:World)(h1:1<=op)(h2:op<=34)(hr:inB op 1 34=true)(kD:hasN (usesS op) 68=true)(kA:hasN (usesS op) 65=true)(kB:hasN (usesS op) 66=false)(kI:hasN (usesS op) 73=true)(kH:hasN (usesS op) 72=false)
 (kx:(op==11)=false)(ky:(op==12)=false)(kz:(op==13)=true)(kj:jumpB op=false)(kl:immLo op=0)(kh:immHi op=63):
 Calls Tryz.prog 21 #[.agg #[.int .i64 op,.int .i64 d,.int .i64 a,.int .i64 b,.int .i64 imm,.int .i64 h]] w fun e w'=>e=.returned (.bool (specIns op d a b imm h))/\Below w.heap.size w w':=by
 go_enter Tryz.func21,Tryz.ntmps21;go_wp2_with(first|(go_at_call 24;refine(uses_any _ _).mono ?_;rintro e w'⟨rfl,rfl⟩)|(go_at_call 25;refine(has_n _ _ _ (uses_le _) (by decide) (by decide)).mono ?_;rintro e w'⟨rfl,rfl⟩)|(go_at_call 48;refine(jump_any _ _).mono ?_;rintro e w'⟨rfl,rfl⟩)|(go_at_call 36;refine(in_any _ _ _ _).mono ?_;rintro e w'⟨rfl,rfl⟩));all_goals(go_ret;refine⟨ret_bool ?_,(Below.refl _ _).alloc (Nat.le_refl _) _⟩;simp_all[specIns])
theorem specIns_ab(op d a b imm h:Int)(w:World)(h1:1<=op)(h2:op<=34)(hr:inB op 1 34=true)(kD:hasN (usesS op) 68=false)(kA:hasN (usesS op) 65=true)(kB:hasN (usesS op) 66=true)(kI:hasN (usesS op) 73=false)(kH:hasN (usesS op) 72=false)
 (kx:(op==11)=false)(ky:(op==12)=false)(kz:(op==13)=false)(kj:jumpB op=false)(kl:immLo op=(-1000000))(kh:immHi op=1000000):
 Calls Tryz.prog 21 #[.agg #[.int .i64 op,.int .i64 d,.int .i64 a,.int .i64 b,.int .i64 imm,.int .i64 h]] w fun e w'=>e=.returned (.bool (specIns op d a b imm h))/\Below w.heap.size w w':=by
 go_enter Tryz.func21,Tryz.ntmps21;go_wp2_with(first|(go_at_call 24;refine(uses_any _ _).mono ?_;rintro e w'⟨rfl,rfl⟩)|(go_at_call 25;refine(has_n _ _ _ (uses_le _) (by decide) (by decide)).mono ?_;rintro e w'⟨rfl,rfl⟩)|(go_at_call 48;refine(jump_any _ _).mono ?_;rintro e w'⟨rfl,rfl⟩)|(go_at_call 36;refine(in_any _ _ _ _).mono ?_;rintro e w'⟨rfl,rfl⟩));all_goals(go_ret;refine⟨ret_bool ?_,(Below.refl _ _).alloc (Nat.le_refl _) _⟩;simp_all[specIns])
theorem specIns_ai(op d a b imm h:Int)(w:World)(h1:1<=op)(h2:op<=34)(hr:inB op 1 34=true)(kD:hasN (usesS op) 68=false)(kA:hasN (usesS op) 65=true)(kB:hasN (usesS op) 66=false)(kI:hasN (usesS op) 73=true)(kH:hasN (usesS op) 72=false)
 (kx:(op==11)=false)(ky:(op==12)=false)(kz:(op==13)=false)(kj:jumpB op=false)(kl:immLo op=(-1000000))(kh:immHi op=1000000):
 Calls Tryz.prog 21 #[.agg #[.int .i64 op,.int .i64 d,.int .i64 a,.int .i64 b,.int .i64 imm,.int .i64 h]] w fun e w'=>e=.returned (.bool (specIns op d a b imm h))/\Below w.heap.size w w':=by
 go_enter Tryz.func21,Tryz.ntmps21;go_wp2_with(first|(go_at_call 24;refine(uses_any _ _).mono ?_;rintro e w'⟨rfl,rfl⟩)|(go_at_call 25;refine(has_n _ _ _ (uses_le _) (by decide) (by decide)).mono ?_;rintro e w'⟨rfl,rfl⟩)|(go_at_call 48;refine(jump_any _ _).mono ?_;rintro e w'⟨rfl,rfl⟩)|(go_at_call 36;refine(in_any _ _ _ _).mono ?_;rintro e w'⟨rfl,rfl⟩));all_goals(go_ret;refine⟨ret_bool ?_,(Below.refl _ _).alloc (Nat.le_refl _) _⟩;simp_all[specIns])
theorem specIns_daih(op d a b imm h:Int)(w:World)(h1:1<=op)(h2:op<=34)(hr:inB op 1 34=true)(kD:hasN (usesS op) 68=true)(kA:hasN (usesS op) 65=true)(kB:hasN (usesS op) 66=false)(kI:hasN (usesS op) 73=true)(kH:hasN (usesS op) 72=true)
 (kx:(op==11)=false)(ky:(op==12)=false)(kz:(op==13)=false)(kj:jumpB op=false)(kl:immLo op=(-1000000))(kh:immHi op=1000000):
 Calls Tryz.prog 21 #[.agg #[.int .i64 op,.int .i64 d,.int .i64 a,.int .i64 b,.int .i64 imm,.int .i64 h]] w fun e w'=>e=.returned (.bool (specIns op d a b imm h))/\Below w.heap.size w w':=by
 go_enter Tryz.func21,Tryz.ntmps21;go_wp2_with(first|(go_at_call 24;refine(uses_any _ _).mono ?_;rintro e w'⟨rfl,rfl⟩)|(go_at_call 25;refine(has_n _ _ _ (uses_le _) (by decide) (by decide)).mono ?_;rintro e w'⟨rfl,rfl⟩)|(go_at_call 48;refine(jump_any _ _).mono ?_;rintro e w'⟨rfl,rfl⟩)|(go_at_call 36;refine(in_any _ _ _ _).mono ?_;rintro e w'⟨rfl,rfl⟩));all_goals(go_ret;refine⟨ret_bool ?_,(Below.refl _ _).alloc (Nat.le_refl _) _⟩;simp_all[specIns])
theorem specIns_dabh(op d a b imm h:Int)(w:World)(h1:1<=op)(h2:op<=34)(hr:inB op 1 34=true)(kD:hasN (usesS op) 68=true)(kA:hasN (usesS op) 65=true)(kB:hasN (usesS op) 66=true)(kI:hasN (usesS op) 73=false)(kH:hasN (usesS op) 72=true)
 (kx:(op==11)=false)(ky:(op==12)=false)(kz:(op==13)=false)(kj:jumpB op=false)(kl:immLo op=(-1000000))(kh:immHi op=1000000):
 Calls Tryz.prog 21 #[.agg #[.int .i64 op,.int .i64 d,.int .i64 a,.int .i64 b,.int .i64 imm,.int .i64 h]] w fun e w'=>e=.returned (.bool (specIns op d a b imm h))/\Below w.heap.size w w':=by
 go_enter Tryz.func21,Tryz.ntmps21;go_wp2_with(first|(go_at_call 24;refine(uses_any _ _).mono ?_;rintro e w'⟨rfl,rfl⟩)|(go_at_call 25;refine(has_n _ _ _ (uses_le _) (by decide) (by decide)).mono ?_;rintro e w'⟨rfl,rfl⟩)|(go_at_call 48;refine(jump_any _ _).mono ?_;rintro e w'⟨rfl,rfl⟩)|(go_at_call 36;refine(in_any _ _ _ _).mono ?_;rintro e w'⟨rfl,rfl⟩));all_goals(go_ret;refine⟨ret_bool ?_,(Below.refl _ _).alloc (Nat.le_refl _) _⟩;simp_all[specIns])
theorem specIns_jump(op d a b imm h:Int)(w:World)(h1:1<=op)(h2:op<=34)(hr:inB op 1 34=true)(kD:hasN (usesS op) 68=false)(kA:hasN (usesS op) 65=false)(kB:hasN (usesS op) 66=false)(kI:hasN (usesS op) 73=true)(kH:hasN (usesS op) 72=false)
 (kx:(op==11)=false)(ky:(op==12)=false)(kz:(op==13)=false)(kj:jumpB op=true)(kl:immLo op=0)(kh:immHi op=1999):
 Calls Tryz.prog 21 #[.agg #[.int .i64 op,.int .i64 d,.int .i64 a,.int .i64 b,.int .i64 imm,.int .i64 h]] w fun e w'=>e=.returned (.bool (specIns op d a b imm h))/\Below w.heap.size w w':=by
 go_enter Tryz.func21,Tryz.ntmps21;go_wp2_with(first|(go_at_call 24;refine(uses_any _ _).mono ?_;rintro e w'⟨rfl,rfl⟩)|(go_at_call 25;refine(has_n _ _ _ (uses_le _) (by decide) (by decide)).mono ?_;rintro e w'⟨rfl,rfl⟩)|(go_at_call 48;refine(jump_any _ _).mono ?_;rintro e w'⟨rfl,rfl⟩)|(go_at_call 36;refine(in_any _ _ _ _).mono ?_;rintro e w'⟨rfl,rfl⟩));all_goals(go_ret;refine⟨ret_bool ?_,(Below.refl _ _).alloc (Nat.le_refl _) _⟩;simp_all[specIns])
theorem specIns_halt(op d a b imm h:Int)(w:World)(h1:1<=op)(h2:op<=34)(hr:inB op 1 34=true)(kD:hasN (usesS op) 68=false)(kA:hasN (usesS op) 65=false)(kB:hasN (usesS op) 66=false)(kI:hasN (usesS op) 73=false)(kH:hasN (usesS op) 72=false)
 (kx:(op==11)=false)(ky:(op==12)=false)(kz:(op==13)=false)(kj:jumpB op=false)(kl:immLo op=(-1000000))(kh:immHi op=1000000):
 Calls Tryz.prog 21 #[.agg #[.int .i64 op,.int .i64 d,.int .i64 a,.int .i64 b,.int .i64 imm,.int .i64 h]] w fun e w'=>e=.returned (.bool (specIns op d a b imm h))/\Below w.heap.size w w':=by
 go_enter Tryz.func21,Tryz.ntmps21;go_wp2_with(first|(go_at_call 24;refine(uses_any _ _).mono ?_;rintro e w'⟨rfl,rfl⟩)|(go_at_call 25;refine(has_n _ _ _ (uses_le _) (by decide) (by decide)).mono ?_;rintro e w'⟨rfl,rfl⟩)|(go_at_call 48;refine(jump_any _ _).mono ?_;rintro e w'⟨rfl,rfl⟩)|(go_at_call 36;refine(in_any _ _ _ _).mono ?_;rintro e w'⟨rfl,rfl⟩));all_goals(go_ret;refine⟨ret_bool ?_,(Below.refl _ _).alloc (Nat.le_refl _) _⟩;simp_all[specIns])
theorem specIns_dab(op d a b imm h:Int)(w:World)(h1:1<=op)(h2:op<=34)(hr:inB op 1 34=true)(kD:hasN (usesS op) 68=true)(kA:hasN (usesS op) 65=true)(kB:hasN (usesS op) 66=true)(kI:hasN (usesS op) 73=false)(kH:hasN (usesS op) 72=false)
 (kx:(op==11)=false)(ky:(op==12)=false)(kz:(op==13)=false)(kj:jumpB op=false)(kl:immLo op=(-1000000))(kh:immHi op=1000000):
 Calls Tryz.prog 21 #[.agg #[.int .i64 op,.int .i64 d,.int .i64 a,.int .i64 b,.int .i64 imm,.int .i64 h]] w fun e w'=>e=.returned (.bool (specIns op d a b imm h))/\Below w.heap.size w w':=by
 go_enter Tryz.func21,Tryz.ntmps21;go_wp2_with(first|(go_at_call 24;refine(uses_any _ _).mono ?_;rintro e w'⟨rfl,rfl⟩)|(go_at_call 25;refine(has_n _ _ _ (uses_le _) (by decide) (by decide)).mono ?_;rintro e w'⟨rfl,rfl⟩)|(go_at_call 48;refine(jump_any _ _).mono ?_;rintro e w'⟨rfl,rfl⟩)|(go_at_call 36;refine(in_any _ _ _ _).mono ?_;rintro e w'⟨rfl,rfl⟩));all_goals(go_ret;refine⟨ret_bool ?_,(Below.refl _ _).alloc (Nat.le_refl _) _⟩;simp_all[specIns])
theorem uD_eq(op:Int):hasN (usesS op) 68=bitB op 1:=by unfold hasN usesS bitB usesL fieldsI;(repeat' split);all_goals first|rfl|(exfalso;omega)
theorem uA_eq(op:Int):hasN (usesS op) 65=bitB op 2:=by unfold hasN usesS bitB usesL fieldsI;(repeat' split);all_goals first|rfl|(exfalso;omega)
theorem uB_eq(op:Int):hasN (usesS op) 66=bitB op 4:=by unfold hasN usesS bitB usesL fieldsI;(repeat' split);all_goals first|rfl|(exfalso;omega)
theorem uI_eq(op:Int):hasN (usesS op) 73=bitB op 8:=by unfold hasN usesS bitB usesL fieldsI;(repeat' split);all_goals first|rfl|(exfalso;omega)
theorem uH_eq(op:Int):hasN (usesS op) 72=bitB op 16:=by unfold hasN usesS bitB usesL fieldsI;(repeat' split);all_goals first|rfl|(exfalso;omega)
theorem field_eq(u:Bool)(v lo hi:Int)(h:lo<=0/\0<=hi):((u||v==0)&&inB v lo hi)=fieldB u v lo hi:=by
 cases u
 ·by_cases g:v=0
  ·subst g;simp[fieldB,inB,h.1,h.2]
  ·simp[fieldB,g]
 ·simp[fieldB]
theorem imm_ok(op:Int):immLo op<=0/\0<=immHi op:=by
 unfold immLo immHi;constructor<;>(repeat' split)<;>omega
theorem ins_same(op d a b imm h:Int):specIns op d a b imm h=implIns op d a b imm h:=by
 unfold specIns implIns;rw[uD_eq,uA_eq,uB_eq,uI_eq,uH_eq,<-field_eq _ d 0 7 (by omega),<-field_eq _ a 0 7 (by omega),<-field_eq _ b 0 7 (by omega),<-field_eq _ h 0 7 (by omega),<-field_eq _ imm _ _ (imm_ok op)];ac_rfl
theorem specIns_out(op d a b imm h:Int)(w:World)(hr:¬(1<=op/\op<=34)):
 Calls Tryz.prog 21 #[.agg #[.int .i64 op,.int .i64 d,.int .i64 a,.int .i64 b,.int .i64 imm,.int .i64 h]] w fun e w'=>e=.returned (.bool (specIns op d a b imm h))/\Below w.heap.size w w':=by
 by_cases h1:1<=op
 ·have h2:34<op:=by omega
  go_enter Tryz.func21,Tryz.ntmps21;go_wp2;go_ret;refine⟨ret_bool ?_,(Below.refl _ _).alloc (Nat.le_refl _) _⟩;have:inB op 1 34=false:=by simp[inB];omega
  simp[specIns,this]
 ·have h2:op<1:=by omega
  go_enter Tryz.func21,Tryz.ntmps21;go_wp2;go_ret;refine⟨ret_bool ?_,(Below.refl _ _).alloc (Nat.le_refl _) _⟩;have:inB op 1 34=false:=by simp[inB];omega
  simp[specIns,this]
theorem class_of(op:Int)(h1:1<=op)(h2:op<=34):op=1∨op=2∨op=10∨op=11∨op=12∨op=13∨op=17∨op=18∨(21<=op/\op<=24)∨(25<=op/\op<=28)∨(29<=op/\op<=33)∨op=34∨((3<=op/\op<=9)∨(14<=op/\op<=16)∨(19<=op/\op<=20)):=by omega
theorem specIns_any(op d a b imm h:Int)(w:World):
 Calls Tryz.prog 21 #[.agg #[.int .i64 op,.int .i64 d,.int .i64 a,.int .i64 b,.int .i64 imm,.int .i64 h]] w fun e w'=>e=.returned (.bool (implIns op d a b imm h))/\Below w.heap.size w w':=by
 rw[<-ins_same];by_cases hr:1<=op/\op<=34
 ·obtain⟨h1,h2⟩:=hr
  have hi:inB op 1 34=true:=by simp[inB];omega
  rcases class_of op h1 h2 with e|e|e|e|e|e|e|e|e|e|e|e|e
  ·subst e;exact specIns_da _ _ _ _ _ _ _ h1 h2 hi (by rfl) (by rfl) (by rfl) (by rfl) (by rfl) (by rfl) (by rfl) (by rfl) (by rfl) (by rfl) (by rfl)
  ·subst e;exact specIns_di _ _ _ _ _ _ _ h1 h2 hi (by rfl) (by rfl) (by rfl) (by rfl) (by rfl) (by rfl) (by rfl) (by rfl) (by rfl) (by rfl) (by rfl)
  ·subst e;exact specIns_dai _ _ _ _ _ _ _ h1 h2 hi (by rfl) (by rfl) (by rfl) (by rfl) (by rfl) (by rfl) (by rfl) (by rfl) (by rfl) (by rfl) (by rfl)
  ·subst e;exact specIns_dai11 _ _ _ _ _ _ _ h1 h2 hi (by rfl) (by rfl) (by rfl) (by rfl) (by rfl) (by rfl) (by rfl) (by rfl) (by rfl) (by rfl) (by rfl)
  ·subst e;exact specIns_dai12 _ _ _ _ _ _ _ h1 h2 hi (by rfl) (by rfl) (by rfl) (by rfl) (by rfl) (by rfl) (by rfl) (by rfl) (by rfl) (by rfl) (by rfl)
  ·subst e;exact specIns_dai13 _ _ _ _ _ _ _ h1 h2 hi (by rfl) (by rfl) (by rfl) (by rfl) (by rfl) (by rfl) (by rfl) (by rfl) (by rfl) (by rfl) (by rfl)
  ·subst e;exact specIns_ab _ _ _ _ _ _ _ h1 h2 hi (by rfl) (by rfl) (by rfl) (by rfl) (by rfl) (by rfl) (by rfl) (by rfl) (by rfl) (by rfl) (by rfl)
  ·subst e;exact specIns_ai _ _ _ _ _ _ _ h1 h2 hi (by rfl) (by rfl) (by rfl) (by rfl) (by rfl) (by rfl) (by rfl) (by rfl) (by rfl) (by rfl) (by rfl)
  ·have hu:usesL op=[68,65,73,72]:=by unfold usesL;(repeat' split);all_goals first|rfl|(exfalso;omega)
   exact specIns_daih _ _ _ _ _ _ _ h1 h2 hi (by unfold usesS;rw[hu];rfl) (by unfold usesS;rw[hu];rfl) (by unfold usesS;rw[hu];rfl) (by unfold usesS;rw[hu];rfl) (by unfold usesS;rw[hu];rfl) (by simp;omega) (by simp;omega) (by simp;omega) (by simp[jumpB];omega) (by unfold immLo;rw[if_neg (by omega)]) (by unfold immHi;rw[if_neg (by omega),if_neg (by omega)])
  ·have hu:usesL op=[68,65,66,72]:=by unfold usesL;(repeat' split);all_goals first|rfl|(exfalso;omega)
   exact specIns_dabh _ _ _ _ _ _ _ h1 h2 hi (by unfold usesS;rw[hu];rfl) (by unfold usesS;rw[hu];rfl) (by unfold usesS;rw[hu];rfl) (by unfold usesS;rw[hu];rfl) (by unfold usesS;rw[hu];rfl) (by simp;omega) (by simp;omega) (by simp;omega) (by simp[jumpB];omega) (by unfold immLo;rw[if_neg (by omega)]) (by unfold immHi;rw[if_neg (by omega),if_neg (by omega)])
  ·have hu:usesL op=[73]:=by unfold usesL;(repeat' split);all_goals first|rfl|(exfalso;omega)
   exact specIns_jump _ _ _ _ _ _ _ h1 h2 hi (by unfold usesS;rw[hu];rfl) (by unfold usesS;rw[hu];rfl) (by unfold usesS;rw[hu];rfl) (by unfold usesS;rw[hu];rfl) (by unfold usesS;rw[hu];rfl) (by simp;omega) (by simp;omega) (by simp;omega) (by simp[jumpB];omega) (by unfold immLo;rw[if_pos (by omega)]) (by unfold immHi;rw[if_neg (by omega),if_pos (by omega)])
  ·subst e;exact specIns_halt _ _ _ _ _ _ _ h1 h2 hi (by rfl) (by rfl) (by rfl) (by rfl) (by rfl) (by rfl) (by rfl) (by rfl) (by rfl) (by rfl) (by rfl)
  ·have hu:usesL op=[68,65,66]:=by unfold usesL;(repeat' split);all_goals first|rfl|(exfalso;omega)
   exact specIns_dab _ _ _ _ _ _ _ h1 h2 hi (by unfold usesS;rw[hu];rfl) (by unfold usesS;rw[hu];rfl) (by unfold usesS;rw[hu];rfl) (by unfold usesS;rw[hu];rfl) (by unfold usesS;rw[hu];rfl) (by simp;omega) (by simp;omega) (by simp;omega) (by simp[jumpB];omega) (by unfold immLo;rw[if_neg (by omega)]) (by unfold immHi;rw[if_neg (by omega),if_neg (by omega)])
 ·exact specIns_out _ _ _ _ _ _ _ hr
end Go.Proofs.YtbahofiiaodpdaaGreat
