import Derived.Test.YtdbhgaegblclaaaDoorRows
import Derived.Test.YtdbhgaegblclaaaDoorInsMath
import Derived.WalkKit
import Derived.WalkSpells
import Derived.WalkLawsBesides
set_option maxHeartbeats 400000
namespace Go.Proofs.YtdbhgaegblclaaaDoor
open Go.RowKit
theorem uses_any(op:Int)(w:World):
 Calls Tryd.prog 62 #[.int .i64 op] w fun e w'=>e=.returned (.string (usesS op))/\w'=w:=by
 go_enter Tryd.func62,Tryd.ntmps62;go_wp2;all_goals(go_ret;refine⟨ret_str ?_,rfl⟩;simp_all[usesS,usesL])
theorem fields_any(op:Int)(w:World):
 Calls Tryd.prog 64 #[.int .i64 op] w fun e w'=>e=.returned (.int .i64 (fieldsI op))/\w'=w:=by
 go_enter Tryd.func64,Tryd.ntmps64;go_wp2;all_goals(go_ret;refine⟨ret_int ?_,rfl⟩;simp_all[fieldsI])
theorem bounds_any(op:Int)(w:World):
 Calls Tryd.prog 65 #[.int .i64 op] w fun e w'=>e=.returned (.tuple #[.int .i64 (immLo op),.int .i64 (immHi op)])/\w'=w:=by
 go_enter Tryd.func65,Tryd.ntmps65;go_wp2;all_goals(go_ret2;refine⟨ret_int2 ?_ ?_,rfl⟩<;>simp_all[immLo,immHi]<;>omega)
theorem jump_any(op:Int)(w:World):
 Calls Tryd.prog 36 #[.int .i64 op] w fun e w'=>e=.returned (.bool (jumpB op))/\w'=w:=by
 go_enter Tryd.func36,Tryd.ntmps36;go_wp2;all_goals(go_ret;refine⟨ret_bool ?_,rfl⟩;simp[jumpB]<;>omega)
theorem jumpI_any(op:Int)(w:World):
 Calls Tryd.prog 38 #[.int .i64 op] w fun e w'=>e=.returned (.bool (jumpB op))/\w'=w:=by
 go_enter Tryd.func38,Tryd.ntmps38;go_wp2;all_goals(go_ret;refine⟨ret_bool ?_,rfl⟩;simp[jumpB]<;>omega)
theorem in_any(x lo hi:Int)(w:World):
 Calls Tryd.prog 39 #[.int .i64 x,.int .i64 lo,.int .i64 hi] w fun e w'=>e=.returned (.bool (inB x lo hi))/\w'=w:=by
 go_enter Tryd.func39,Tryd.ntmps39;go_wp2;all_goals(go_ret;refine⟨ret_bool ?_,rfl⟩;simp[inB]<;>omega)
theorem field_any(u:Bool)(x lo hi:Int)(w:World):
 Calls Tryd.prog 66 #[.bool u,.int .i64 x,.int .i64 lo,.int .i64 hi] w fun e w'=>e=.returned (.bool (fieldB u x lo hi))/\w'=w:=by
 go_enter Tryd.func66,Tryd.ntmps66;go_wp2;all_goals(go_ret;refine⟨ret_bool ?_,rfl⟩;cases u<;>simp_all[fieldB,inB]<;>omega)
theorem has_any(s:ByteArray)(b:UInt8)(w:World)(hs:s.size<=maxLen):
 Calls Tryd.prog 63 #[.string s,.int .u8 b.toNat] w fun e w'=>e=.returned (.bool (hasB s b))/\w'=w:=by
 unfold maxLen at hs;go_enter Tryd.func63,Tryd.ntmps63;go_wp2;go_loop [5](fun i=>∃k:Nat,k<=s.size/\i=.int .i64 k/\(s.data.toList.take k).contains b=false)(fun i=>s.size-(intOf i).toNat)
 case atStart=>exact⟨0,Nat.zero_le _,rfl,rfl⟩
 case round=>
  obtain⟨k,hk,rfl,hno⟩:=hrel;have HN:Hid ((s.data.toList.take k).contains b=false):=hno;clear hno;by_cases hlt:k<s.size
  ·have HT:Hid (s.data.toList.take (k+1)=s.data.toList.take k++[s[k]]):=take_snoc s k hlt
   go_wp2
   ·go_ret
    refine⟨ret_bool ?_,rfl⟩;have h:((s[k].toNat:Int)==(b.toNat:Int))=true:=by assumption
    exact(has_yes s b k hlt h).symm
   ·go_round
    case rel=>exact⟨k+1,by omega,by go_num,has_no s b k HN.out HT.out (by assumption)⟩
    case measure=>simp[intOf];omega
  ·go_wp2
   go_ret;exact⟨ret_bool (has_end s b k hk (by omega) HN.out).symm,rfl⟩
end Go.Proofs.YtdbhgaegblclaaaDoor
