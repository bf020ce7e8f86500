import Derived.Test.YtiphbmhoifggiaaGreatDoorInsSpecA
import Derived.Test.YtiphbmhoifggiaaGreatDoorInsSpecB
import Derived.Test.YtiphbmhoifggiaaGreatDoorInsSpecC
import Derived.Test.YtiphbmhoifggiaaGreatDoorInsSpecD
set_option maxHeartbeats 800000
namespace Go.Proofs.YtiphbmhoifggiaaGreatDoor
open Go.RowKit
theorem uD_eq(op:Int):hasN (usesS op) 68=bitB op 1:=by unfold hasN usesS bitB usesL fieldsI;(repeat' split);all_goals first|rfl|(exfalso;omega)
theorem uA_eq(op:Int):hasN (usesS op) 65=bitB op 2:=by unfold hasN usesS bitB usesL fieldsI;(repeat' split);all_goals first|rfl|(exfalso;omega)
theorem uB_eq(op:Int):hasN (usesS op) 66=bitB op 4:=by unfold hasN usesS bitB usesL fieldsI;(repeat' split);all_goals first|rfl|(exfalso;omega)
theorem uI_eq(op:Int):hasN (usesS op) 73=bitB op 8:=by unfold hasN usesS bitB usesL fieldsI;(repeat' split);all_goals first|rfl|(exfalso;omega)
theorem uH_eq(op:Int):hasN (usesS op) 72=bitB op 16:=by unfold hasN usesS bitB usesL fieldsI;(repeat' split);all_goals first|rfl|(exfalso;omega)
theorem field_eq(u:Bool)(v lo hi:Int)(h:lo<=0/\0<=hi):((u||v==0)&&inB v lo hi)=fieldB u v lo hi:=by
 cases u
 ·by_cases g:v=0
  ·subst g;simp[fieldB,inB,h.1,h.2]
  ·simp[fieldB,g]
 ·simp[fieldB]
theorem imm_ok(op:Int):immLo op<=0/\0<=immHi op:=by
 unfold immLo immHi;constructor<;>(repeat' split)<;>omega
theorem ins_same(op d a b imm h:Int):specIns op d a b imm h=implIns op d a b imm h:=by
 unfold specIns implIns;rw[uD_eq,uA_eq,uB_eq,uI_eq,uH_eq,<-field_eq _ d 0 7 (by omega),<-field_eq _ a 0 7 (by omega),<-field_eq _ b 0 7 (by omega),<-field_eq _ h 0 7 (by omega),<-field_eq _ imm _ _ (imm_ok op)];ac_rfl
theorem specIns_out(op d a b imm h:Int)(w:World)(hr:¬(1<=op/\op<=34)):
 Calls Tryz.prog 87 #[.agg #[.int .i64 op,.int .i64 d,.int .i64 a,.int .i64 b,.int .i64 imm,.int .i64 h]] w fun e w'=>e=.returned (.bool (specIns op d a b imm h))/\Below w.heap.size w w':=by
 by_cases h1:1<=op
 ·have h2:34<op:=by omega
  go_enter Tryz.func87,Tryz.ntmps87;go_wp2;go_ret;refine⟨ret_bool ?_,(Below.refl _ _).alloc (Nat.le_refl _) _⟩;have:inB op 1 34=false:=by simp[inB];omega
  simp[specIns,this]
 ·have h2:op<1:=by omega
  go_enter Tryz.func87,Tryz.ntmps87;go_wp2;go_ret;refine⟨ret_bool ?_,(Below.refl _ _).alloc (Nat.le_refl _) _⟩;have:inB op 1 34=false:=by simp[inB];omega
  simp[specIns,this]
theorem class_of(op:Int)(h1:1<=op)(h2:op<=34):op=1∨op=2∨op=10∨op=11∨op=12∨op=13∨op=17∨op=18∨(21<=op/\op<=24)∨(25<=op/\op<=28)∨(29<=op/\op<=33)∨op=34∨((3<=op/\op<=9)∨(14<=op/\op<=16)∨(19<=op/\op<=20)):=by omega
theorem specIns_any(op d a b imm h:Int)(w:World):
 Calls Tryz.prog 87 #[.agg #[.int .i64 op,.int .i64 d,.int .i64 a,.int .i64 b,.int .i64 imm,.int .i64 h]] w fun e w'=>e=.returned (.bool (implIns op d a b imm h))/\Below w.heap.size w w':=by
 rw[<-ins_same];by_cases hr:1<=op/\op<=34
 ·obtain⟨h1,h2⟩:=hr
  have hi:inB op 1 34=true:=by simp[inB];omega
  rcases class_of op h1 h2 with e|e|e|e|e|e|e|e|e|e|e|e|e
  ·subst e;exact specIns_da _ _ _ _ _ _ _ h1 h2 hi (by rfl) (by rfl) (by rfl) (by rfl) (by rfl) (by rfl) (by rfl) (by rfl) (by rfl) (by rfl) (by rfl)
  ·subst e;exact specIns_di _ _ _ _ _ _ _ h1 h2 hi (by rfl) (by rfl) (by rfl) (by rfl) (by rfl) (by rfl) (by rfl) (by rfl) (by rfl) (by rfl) (by rfl)
  ·subst e;exact specIns_dai _ _ _ _ _ _ _ h1 h2 hi (by rfl) (by rfl) (by rfl) (by rfl) (by rfl) (by rfl) (by rfl) (by rfl) (by rfl) (by rfl) (by rfl)
  ·subst e;exact specIns_dai11 _ _ _ _ _ _ _ h1 h2 hi (by rfl) (by rfl) (by rfl) (by rfl) (by rfl) (by rfl) (by rfl) (by rfl) (by rfl) (by rfl) (by rfl)
  ·subst e;exact specIns_dai12 _ _ _ _ _ _ _ h1 h2 hi (by rfl) (by rfl) (by rfl) (by rfl) (by rfl) (by rfl) (by rfl) (by rfl) (by rfl) (by rfl) (by rfl)
  ·subst e;exact specIns_dai13 _ _ _ _ _ _ _ h1 h2 hi (by rfl) (by rfl) (by rfl) (by rfl) (by rfl) (by rfl) (by rfl) (by rfl) (by rfl) (by rfl) (by rfl)
  ·subst e;exact specIns_ab _ _ _ _ _ _ _ h1 h2 hi (by rfl) (by rfl) (by rfl) (by rfl) (by rfl) (by rfl) (by rfl) (by rfl) (by rfl) (by rfl) (by rfl)
  ·subst e;exact specIns_ai _ _ _ _ _ _ _ h1 h2 hi (by rfl) (by rfl) (by rfl) (by rfl) (by rfl) (by rfl) (by rfl) (by rfl) (by rfl) (by rfl) (by rfl)
  ·have hu:usesL op=[68,65,73,72]:=by unfold usesL;(repeat' split);all_goals first|rfl|(exfalso;omega)
   exact specIns_daih _ _ _ _ _ _ _ h1 h2 hi (by unfold usesS;rw[hu];rfl) (by unfold usesS;rw[hu];rfl) (by unfold usesS;rw[hu];rfl) (by unfold usesS;rw[hu];rfl) (by unfold usesS;rw[hu];rfl) (by simp;omega) (by simp;omega) (by simp;omega) (by simp[jumpB];omega) (by unfold immLo;rw[if_neg (by omega)]) (by unfold immHi;rw[if_neg (by omega),if_neg (by omega)])
  ·have hu:usesL op=[68,65,66,72]:=by unfold usesL;(repeat' split);all_goals first|rfl|(exfalso;omega)
   exact specIns_dabh _ _ _ _ _ _ _ h1 h2 hi (by unfold usesS;rw[hu];rfl) (by unfold usesS;rw[hu];rfl) (by unfold usesS;rw[hu];rfl) (by unfold usesS;rw[hu];rfl) (by unfold usesS;rw[hu];rfl) (by simp;omega) (by simp;omega) (by simp;omega) (by simp[jumpB];omega) (by unfold immLo;rw[if_neg (by omega)]) (by unfold immHi;rw[if_neg (by omega),if_neg (by omega)])
  ·have hu:usesL op=[73]:=by unfold usesL;(repeat' split);all_goals first|rfl|(exfalso;omega)
   exact specIns_jump _ _ _ _ _ _ _ h1 h2 hi (by unfold usesS;rw[hu];rfl) (by unfold usesS;rw[hu];rfl) (by unfold usesS;rw[hu];rfl) (by unfold usesS;rw[hu];rfl) (by unfold usesS;rw[hu];rfl) (by simp;omega) (by simp;omega) (by simp;omega) (by simp[jumpB];omega) (by unfold immLo;rw[if_pos (by omega)]) (by unfold immHi;rw[if_neg (by omega),if_pos (by omega)])
  ·subst e;exact specIns_halt _ _ _ _ _ _ _ h1 h2 hi (by rfl) (by rfl) (by rfl) (by rfl) (by rfl) (by rfl) (by rfl) (by rfl) (by rfl) (by rfl) (by rfl)
  ·have hu:usesL op=[68,65,66]:=by unfold usesL;(repeat' split);all_goals first|rfl|(exfalso;omega)
   exact specIns_dab _ _ _ _ _ _ _ h1 h2 hi (by unfold usesS;rw[hu];rfl) (by unfold usesS;rw[hu];rfl) (by unfold usesS;rw[hu];rfl) (by unfold usesS;rw[hu];rfl) (by unfold usesS;rw[hu];rfl) (by simp;omega) (by simp;omega) (by simp;omega) (by simp[jumpB];omega) (by unfold immLo;rw[if_neg (by omega)]) (by unfold immHi;rw[if_neg (by omega),if_neg (by omega)])
 ·exact specIns_out _ _ _ _ _ _ _ hr
end Go.Proofs.YtiphbmhoifggiaaGreatDoor
