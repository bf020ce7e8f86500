import Derived.Test.YtiphbmhoifggiaaGreatDoorRows
import Derived.Test.YtiphbmhoifggiaaGreatDoorInsMath
import Derived.WalkKit
import Derived.WalkSpells
import Derived.WalkLawsBesides
set_option maxHeartbeats 400000
namespace Go.Proofs.YtiphbmhoifggiaaGreatDoor
open Go.RowKit
theorem uses_any(op:Int)(w:World):
 Calls Tryz.prog 88 #[.int .i64 op] w fun e w'=>e=.returned (.string (usesS op))/\w'=w:=by
 go_enter Tryz.func88,Tryz.ntmps88;go_wp2;all_goals(go_ret;refine⟨ret_str ?_,rfl⟩;simp_all[usesS,usesL])
theorem fields_any(op:Int)(w:World):
 Calls Tryz.prog 102 #[.int .i64 op] w fun e w'=>e=.returned (.int .i64 (fieldsI op))/\w'=w:=by
 go_enter Tryz.func102,Tryz.ntmps102;go_wp2;all_goals(go_ret;refine⟨ret_int ?_,rfl⟩;simp_all[fieldsI])
theorem bounds_any(op:Int)(w:World):
 Calls Tryz.prog 118 #[.int .i64 op] w fun e w'=>e=.returned (.tuple #[.int .i64 (immLo op),.int .i64 (immHi op)])/\w'=w:=by
 go_enter Tryz.func118,Tryz.ntmps118;go_wp2;all_goals(go_ret2;refine⟨ret_int2 ?_ ?_,rfl⟩<;>simp_all[immLo,immHi]<;>omega)
theorem jump_any(op:Int)(w:World):
 Calls Tryz.prog 89 #[.int .i64 op] w fun e w'=>e=.returned (.bool (jumpB op))/\w'=w:=by
 go_enter Tryz.func89,Tryz.ntmps89;go_wp2;all_goals(go_ret;refine⟨ret_bool ?_,rfl⟩;simp[jumpB]<;>omega)
theorem in_any(x lo hi:Int)(w:World):
 Calls Tryz.prog 15 #[.int .i64 x,.int .i64 lo,.int .i64 hi] w fun e w'=>e=.returned (.bool (inB x lo hi))/\w'=w:=by
 go_enter Tryz.func15,Tryz.ntmps15;go_wp2;all_goals(go_ret;refine⟨ret_bool ?_,rfl⟩;simp[inB]<;>omega)
theorem field_any(u:Bool)(x lo hi:Int)(w:World):
 Calls Tryz.prog 119 #[.bool u,.int .i64 x,.int .i64 lo,.int .i64 hi] w fun e w'=>e=.returned (.bool (fieldB u x lo hi))/\w'=w:=by
 go_enter Tryz.func119,Tryz.ntmps119;go_wp2;all_goals(go_ret;refine⟨ret_bool ?_,rfl⟩;cases u<;>simp_all[fieldB,inB]<;>omega)
theorem has_any(s:ByteArray)(b:UInt8)(w:World)(hs:s.size<=maxLen):
 Calls Tryz.prog 90 #[.string s,.int .u8 b.toNat] w fun e w'=>e=.returned (.bool (hasB s b))/\w'=w:=by
 unfold maxLen at hs;go_enter Tryz.func90,Tryz.ntmps90;go_wp2;go_loop [5](fun i=>∃k:Nat,k<=s.size/\i=.int .i64 k/\(s.data.toList.take k).contains b=false)(fun i=>s.size-(intOf i).toNat)
 case atStart=>exact⟨0,Nat.zero_le _,rfl,rfl⟩
 case round=>
  obtain⟨k,hk,rfl,hno⟩:=hrel;have HN:Hid ((s.data.toList.take k).contains b=false):=hno;clear hno;by_cases hlt:k<s.size
  ·have HT:Hid (s.data.toList.take (k+1)=s.data.toList.take k++[s[k]]):=take_snoc s k hlt
   go_wp2
   ·go_ret
    refine⟨ret_bool ?_,rfl⟩;have h:((s[k].toNat:Int)==(b.toNat:Int))=true:=by assumption
    exact(has_yes s b k hlt h).symm
   ·go_round
    case rel=>exact⟨k+1,by omega,by go_num,has_no s b k HN.out HT.out (by assumption)⟩
    case measure=>simp[intOf];omega
  ·go_wp2
   go_ret;exact⟨ret_bool (has_end s b k hk (by omega) HN.out).symm,rfl⟩
end Go.Proofs.YtiphbmhoifggiaaGreatDoor
