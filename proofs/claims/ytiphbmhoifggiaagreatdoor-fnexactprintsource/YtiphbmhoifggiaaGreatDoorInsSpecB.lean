import Derived.Test.YtiphbmhoifggiaaGreatDoorInsValid
set_option maxHeartbeats 800000
namespace Go.Proofs.YtiphbmhoifggiaaGreatDoor
open Go.RowKit
theorem specIns_dai12(op d a b imm h:Int)(w:World)(h1:1<=op)(h2:op<=34)(hr:inB op 1 34=true)(kD:hasN (usesS op) 68=true)(kA:hasN (usesS op) 65=true)(kB:hasN (usesS op) 66=false)(kI:hasN (usesS op) 73=true)(kH:hasN (usesS op) 72=false)
 (kx:(op==11)=false)(ky:(op==12)=true)(_kz:(op==13)=false)(kj:jumpB op=false)(kl:immLo op=0)(kh:immHi op=63):
 Calls Tryz.prog 87 #[.agg #[.int .i64 op,.int .i64 d,.int .i64 a,.int .i64 b,.int .i64 imm,.int .i64 h]] w fun e w'=>e=.returned (.bool (specIns op d a b imm h))/\Below w.heap.size w w':=by
 go_enter Tryz.func87,Tryz.ntmps87;go_wp2_with(first|(go_at_call 88;refine(uses_any _ _).mono ?_;rintro e w'⟨rfl,rfl⟩)|(go_at_call 90;refine(has_n _ _ _ (uses_le _) (by decide) (by decide)).mono ?_;rintro e w'⟨rfl,rfl⟩)|(go_at_call 89;refine(jump_any _ _).mono ?_;rintro e w'⟨rfl,rfl⟩)|(go_at_call 15;refine(in_any _ _ _ _).mono ?_;rintro e w'⟨rfl,rfl⟩));all_goals(go_ret;refine⟨ret_bool ?_,(Below.refl _ _).alloc (Nat.le_refl _) _⟩;simp_all[specIns])
theorem specIns_dai13(op d a b imm h:Int)(w:World)(h1:1<=op)(h2:op<=34)(hr:inB op 1 34=true)(kD:hasN (usesS op) 68=true)(kA:hasN (usesS op) 65=true)(kB:hasN (usesS op) 66=false)(kI:hasN (usesS op) 73=true)(kH:hasN (usesS op) 72=false)
 (kx:(op==11)=false)(ky:(op==12)=false)(kz:(op==13)=true)(kj:jumpB op=false)(kl:immLo op=0)(kh:immHi op=63):
 Calls Tryz.prog 87 #[.agg #[.int .i64 op,.int .i64 d,.int .i64 a,.int .i64 b,.int .i64 imm,.int .i64 h]] w fun e w'=>e=.returned (.bool (specIns op d a b imm h))/\Below w.heap.size w w':=by
 go_enter Tryz.func87,Tryz.ntmps87;go_wp2_with(first|(go_at_call 88;refine(uses_any _ _).mono ?_;rintro e w'⟨rfl,rfl⟩)|(go_at_call 90;refine(has_n _ _ _ (uses_le _) (by decide) (by decide)).mono ?_;rintro e w'⟨rfl,rfl⟩)|(go_at_call 89;refine(jump_any _ _).mono ?_;rintro e w'⟨rfl,rfl⟩)|(go_at_call 15;refine(in_any _ _ _ _).mono ?_;rintro e w'⟨rfl,rfl⟩));all_goals(go_ret;refine⟨ret_bool ?_,(Below.refl _ _).alloc (Nat.le_refl _) _⟩;simp_all[specIns])
theorem specIns_ab(op d a b imm h:Int)(w:World)(h1:1<=op)(h2:op<=34)(hr:inB op 1 34=true)(kD:hasN (usesS op) 68=false)(kA:hasN (usesS op) 65=true)(kB:hasN (usesS op) 66=true)(kI:hasN (usesS op) 73=false)(kH:hasN (usesS op) 72=false)
 (kx:(op==11)=false)(ky:(op==12)=false)(kz:(op==13)=false)(kj:jumpB op=false)(kl:immLo op=(-1000000))(kh:immHi op=1000000):
 Calls Tryz.prog 87 #[.agg #[.int .i64 op,.int .i64 d,.int .i64 a,.int .i64 b,.int .i64 imm,.int .i64 h]] w fun e w'=>e=.returned (.bool (specIns op d a b imm h))/\Below w.heap.size w w':=by
 go_enter Tryz.func87,Tryz.ntmps87;go_wp2_with(first|(go_at_call 88;refine(uses_any _ _).mono ?_;rintro e w'⟨rfl,rfl⟩)|(go_at_call 90;refine(has_n _ _ _ (uses_le _) (by decide) (by decide)).mono ?_;rintro e w'⟨rfl,rfl⟩)|(go_at_call 89;refine(jump_any _ _).mono ?_;rintro e w'⟨rfl,rfl⟩)|(go_at_call 15;refine(in_any _ _ _ _).mono ?_;rintro e w'⟨rfl,rfl⟩));all_goals(go_ret;refine⟨ret_bool ?_,(Below.refl _ _).alloc (Nat.le_refl _) _⟩;simp_all[specIns])
end Go.Proofs.YtiphbmhoifggiaaGreatDoor
