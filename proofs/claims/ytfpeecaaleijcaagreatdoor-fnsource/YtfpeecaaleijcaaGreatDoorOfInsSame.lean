import Derived.Test.YtfpeecaaleijcaaGreatDoorOfCl
import Derived.Test.YtfpeecaaleijcaaGreatDoorRows
import Derived.WalkKit
import Derived.WalkSpells
import Derived.WalkLawsBesides
set_option maxHeartbeats 800000
namespace Go.Proofs.YtfpeecaaleijcaaGreatDoor
open Go.RowKit
theorem CK(op:Int)(w:World):
 Calls Tryz.prog 114 #[Vi op] w fun e w'=>e=.returned (.string (Af op))/\w'=w:=by
 go_enter Tryz.func114,Tryz.ntmps114;go_wp2;all_goals(go_ret;refine⟨Zj ?_,rfl⟩;simp_all[Af,Es])
theorem I9(op:Int)(w:World):
 Calls Tryz.prog 112 #[Vi op] w fun e w'=>e=.returned (Vi (Eg op))/\w'=w:=by
 go_enter Tryz.func112,Tryz.ntmps112;go_wp2;all_goals(go_ret;refine⟨Bp ?_,rfl⟩;simp_all[Eg])
theorem Tg(op:Int)(w:World):
 Calls Tryz.prog 170 #[Vi op] w fun e w'=>e=.returned (.tuple #[Vi (CX op),Vi (Ca op)])/\w'=w:=by
 go_enter Tryz.func170,Tryz.ntmps170;go_wp2;all_goals(go_ret2;refine⟨Yv ?_ ?_,rfl⟩<;>simp_all[CX,Ca]<;>omega)
theorem CW(op:Int)(w:World):
 Calls Tryz.prog 115 #[Vi op] w fun e w'=>e=.returned (.bool (Ce op))/\w'=w:=by
 go_enter Tryz.func115,Tryz.ntmps115;go_wp2;all_goals(go_ret;refine⟨Ag ?_,rfl⟩;simp[Ce]<;>omega)
theorem OY(op:Int)(w:World):
 Calls Tryz.prog 155 #[Vi op] w fun e w'=>e=.returned (.bool (Ce op))/\w'=w:=by
 go_enter Tryz.func155,Tryz.ntmps155;go_wp2;all_goals(go_ret;refine⟨Ag ?_,rfl⟩;simp[Ce]<;>omega)
theorem Dx(x lo hi:Int)(w:World):
 Calls Tryz.prog 24 #[Vi x,Vi lo,Vi hi] w fun e w'=>e=.returned (.bool (Ec x lo hi))/\w'=w:=by
 go_enter Tryz.func24,Tryz.ntmps24;go_wp2;all_goals(go_ret;refine⟨Ag ?_,rfl⟩;simp[Ec]<;>omega)
theorem Wt(u:Bool)(x lo hi:Int)(w:World):
 Calls Tryz.prog 171 #[.bool u,Vi x,Vi lo,Vi hi] w fun e w'=>e=.returned (.bool (C8 u x lo hi))/\w'=w:=by
 go_enter Tryz.func171,Tryz.ntmps171;go_wp2;all_goals(go_ret;refine⟨Ag ?_,rfl⟩;cases u<;>simp_all[C8,Ec]<;>omega)
theorem aV(s:ByteArray)(b:UInt8)(w:World)(hs:s.size<=maxLen):
 Calls Tryz.prog 116 #[.string s,.int .u8 b.toNat] w fun e w'=>e=.returned (.bool (hasB s b))/\w'=w:=by
 unfold maxLen at hs;go_enter Tryz.func116,Tryz.ntmps116;go_wp2;go_loop [5](fun i=>∃k:Nat,k<=s.size/\i=Vi k/\(s.data.toList.take k).contains b=false)(fun i=>s.size-(intOf i).toNat)
 case atStart=>exact⟨0,Nat.zero_le _,rfl,rfl⟩
 case round=>
  obtain⟨k,hk,rfl,hno⟩:=hrel;have HN:=hxy hno;clear hno;by_cases hlt:k<s.size
  ·have HT:=hxy (OI s k hlt)
   go_wp2
   ·go_ret
    refine⟨Ag ?_,rfl⟩;have h:((s[k].toNat:Int)==(b.toNat:Int))=true:=by assumption
    exact(Zd s b k hlt h).symm
   ·go_round
    case rel=>exact⟨k+1,by omega,by go_num,dK s b k HN.out HT.out (by assumption)⟩
    case measure=>simp[intOf];omega
  ·go_wp2
   go_ret;exact⟨Ag (Zr s b k hk (by omega) HN.out).symm,rfl⟩
def A8(s:ByteArray)(n:Int):Bool:=hasB s (UInt8.ofNat n.toNat)
theorem Ct(s:ByteArray)(n:Int)(w:World)(hs:s.size<=maxLen)(h0:0<=n)(h1:n<=255):
 Calls Tryz.prog 116 #[.string s,.int .u8 n] w fun e w'=>e=.returned (.bool (A8 s n))/\w'=w:=by
 have:=aV s (UInt8.ofNat n.toNat) w hs;rw[show((UInt8.ofNat n.toNat).toNat:Int)=n from by simp;omega]at this;exact this
theorem Bu(op:Int):(Af op).size<=maxLen:=by
 unfold Af Es maxLen;repeat' split
 all_goals decide
def BX(op d a b imm h:Int):Bool:=
 Ec op 1 34&&(A8 (Af op) 68||d==0)&&(A8 (Af op) 65||a==0)&&(A8 (Af op) 66||b==0)&&(A8 (Af op) 73||imm==0)&&(A8 (Af op) 72||h==0)&&
  Ec d 0 7&&Ec a 0 7&&Ec b 0 7&&Ec h 0 7&&Ec imm (CX op) (Ca op)
def DV(op k:Int):Bool:=bits BinOp.and IntKind.i64 (Eg op) k !=0
def Ar(op d a b imm h:Int):Bool:=
 Ec op 1 34&&C8 (DV op 1) d 0 7&&C8 (DV op 2) a 0 7&&C8 (DV op 4) b 0 7&&C8 (DV op 8) imm (CX op) (Ca op)&&C8 (DV op 16) h 0 7
theorem G8(op d a b imm h:Int)(w:World):
 Calls Tryz.prog 141 #[.agg #[Vi op,Vi d,Vi a,Vi b,Vi imm,Vi h]] w fun e w'=>e=.returned (.bool (Ar op d a b imm h))/\Below w.heap.size w w':=by
 by_cases hr:1<=op/\op<=34
 ·obtain⟨h1,h2⟩:=hr
  go_enter Tryz.func141,Tryz.ntmps141;go_wp2_with(first|(go_at_call 112;refine(I9 _ _).mono ?_;rintro e w'⟨rfl,rfl⟩)|(go_at_call 170;refine(Tg _ _).mono ?_;rintro e w'⟨rfl,rfl⟩)|(go_at_call 171;refine(Wt _ _ _ _ _).mono ?_;rintro e w'⟨rfl,rfl⟩));all_goals(go_ret;refine⟨Ag ?_,Ak⟩;simp_all[Ar,DV,Ec])
 ·by_cases h1:1<=op
  ·have h2:34<op:=by omega
   go_enter Tryz.func141,Tryz.ntmps141;go_wp2;go_ret;refine⟨Ag ?_,Ak⟩;have:Ec op 1 34=false:=by simp[Ec];omega
   simp[Ar,this]
  ·have h2:op<1:=by omega
   go_enter Tryz.func141,Tryz.ntmps141;go_wp2;go_ret;refine⟨Ag ?_,Ak⟩;have:Ec op 1 34=false:=by simp[Ec];omega
   simp[Ar,this]
theorem UR(op d a b imm h:Int)(w:World)(h1:1<=op)(h2:op<=34)(hr:Ec op 1 34=true)(kD:A8 (Af op) 68=true)(kA:A8 (Af op) 65=true)(kB:A8 (Af op) 66=false)(kI:A8 (Af op) 73=false)(kH:A8 (Af op) 72=false)
 (kx:(op==11)=false)(ky:(op==12)=false)(kz:(op==13)=false)(kj:Ce op=false)(kl:CX op=(-1000000))(kh:Ca op=1000000):
 Calls Tryz.prog 113 #[.agg #[Vi op,Vi d,Vi a,Vi b,Vi imm,Vi h]] w fun e w'=>e=.returned (.bool (BX op d a b imm h))/\Below w.heap.size w w':=by
 go_enter Tryz.func113,Tryz.ntmps113;go_wp2_with(first|(go_at_call 114;refine(CK _ _).mono ?_;rintro e w'⟨rfl,rfl⟩)|(go_at_call 116;refine(Ct _ _ _ (Bu _) (by decide) (by decide)).mono ?_;rintro e w'⟨rfl,rfl⟩)|(go_at_call 115;refine(CW _ _).mono ?_;rintro e w'⟨rfl,rfl⟩)|(go_at_call 24;refine(Dx _ _ _ _).mono ?_;rintro e w'⟨rfl,rfl⟩));all_goals(go_ret;refine⟨Ag ?_,Ak⟩;simp_all[BX])
theorem Uc(op d a b imm h:Int)(w:World)(h1:1<=op)(h2:op<=34)(hr:Ec op 1 34=true)(kD:A8 (Af op) 68=true)(kA:A8 (Af op) 65=false)(kB:A8 (Af op) 66=false)(kI:A8 (Af op) 73=true)(kH:A8 (Af op) 72=false)
 (kx:(op==11)=false)(ky:(op==12)=false)(kz:(op==13)=false)(kj:Ce op=false)(kl:CX op=(-1000000))(kh:Ca op=1000000):
 Calls Tryz.prog 113 #[.agg #[Vi op,Vi d,Vi a,Vi b,Vi imm,Vi h]] w fun e w'=>e=.returned (.bool (BX op d a b imm h))/\Below w.heap.size w w':=by
 go_enter Tryz.func113,Tryz.ntmps113;go_wp2_with(first|(go_at_call 114;refine(CK _ _).mono ?_;rintro e w'⟨rfl,rfl⟩)|(go_at_call 116;refine(Ct _ _ _ (Bu _) (by decide) (by decide)).mono ?_;rintro e w'⟨rfl,rfl⟩)|(go_at_call 115;refine(CW _ _).mono ?_;rintro e w'⟨rfl,rfl⟩)|(go_at_call 24;refine(Dx _ _ _ _).mono ?_;rintro e w'⟨rfl,rfl⟩));all_goals(go_ret;refine⟨Ag ?_,Ak⟩;simp_all[BX])
theorem Qu(op d a b imm h:Int)(w:World)(h1:1<=op)(h2:op<=34)(hr:Ec op 1 34=true)(kD:A8 (Af op) 68=true)(kA:A8 (Af op) 65=true)(kB:A8 (Af op) 66=false)(kI:A8 (Af op) 73=true)(kH:A8 (Af op) 72=false)
 (kx:(op==11)=false)(ky:(op==12)=false)(kz:(op==13)=false)(kj:Ce op=false)(kl:CX op=(-1000000))(kh:Ca op=1000000):
 Calls Tryz.prog 113 #[.agg #[Vi op,Vi d,Vi a,Vi b,Vi imm,Vi h]] w fun e w'=>e=.returned (.bool (BX op d a b imm h))/\Below w.heap.size w w':=by
 go_enter Tryz.func113,Tryz.ntmps113;go_wp2_with(first|(go_at_call 114;refine(CK _ _).mono ?_;rintro e w'⟨rfl,rfl⟩)|(go_at_call 116;refine(Ct _ _ _ (Bu _) (by decide) (by decide)).mono ?_;rintro e w'⟨rfl,rfl⟩)|(go_at_call 115;refine(CW _ _).mono ?_;rintro e w'⟨rfl,rfl⟩)|(go_at_call 24;refine(Dx _ _ _ _).mono ?_;rintro e w'⟨rfl,rfl⟩));all_goals(go_ret;refine⟨Ag ?_,Ak⟩;simp_all[BX])
theorem Nz(op d a b imm h:Int)(w:World)(h1:1<=op)(h2:op<=34)(hr:Ec op 1 34=true)(kD:A8 (Af op) 68=true)(kA:A8 (Af op) 65=true)(kB:A8 (Af op) 66=false)(kI:A8 (Af op) 73=true)(kH:A8 (Af op) 72=false)
 (kx:(op==11)=true)(ky:(op==12)=false)(kz:(op==13)=false)(kj:Ce op=false)(kl:CX op=0)(kh:Ca op=1000000):
 Calls Tryz.prog 113 #[.agg #[Vi op,Vi d,Vi a,Vi b,Vi imm,Vi h]] w fun e w'=>e=.returned (.bool (BX op d a b imm h))/\Below w.heap.size w w':=by
 go_enter Tryz.func113,Tryz.ntmps113;go_wp2_with(first|(go_at_call 114;refine(CK _ _).mono ?_;rintro e w'⟨rfl,rfl⟩)|(go_at_call 116;refine(Ct _ _ _ (Bu _) (by decide) (by decide)).mono ?_;rintro e w'⟨rfl,rfl⟩)|(go_at_call 115;refine(CW _ _).mono ?_;rintro e w'⟨rfl,rfl⟩)|(go_at_call 24;refine(Dx _ _ _ _).mono ?_;rintro e w'⟨rfl,rfl⟩));all_goals(go_ret;refine⟨Ag ?_,Ak⟩;simp_all[BX])
theorem Nl(op d a b imm h:Int)(w:World)(h1:1<=op)(h2:op<=34)(hr:Ec op 1 34=true)(kD:A8 (Af op) 68=true)(kA:A8 (Af op) 65=true)(kB:A8 (Af op) 66=false)(kI:A8 (Af op) 73=true)(kH:A8 (Af op) 72=false)
 (kx:(op==11)=false)(ky:(op==12)=true)(_kz:(op==13)=false)(kj:Ce op=false)(kl:CX op=0)(kh:Ca op=63):
 Calls Tryz.prog 113 #[.agg #[Vi op,Vi d,Vi a,Vi b,Vi imm,Vi h]] w fun e w'=>e=.returned (.bool (BX op d a b imm h))/\Below w.heap.size w w':=by
 go_enter Tryz.func113,Tryz.ntmps113;go_wp2_with(first|(go_at_call 114;refine(CK _ _).mono ?_;rintro e w'⟨rfl,rfl⟩)|(go_at_call 116;refine(Ct _ _ _ (Bu _) (by decide) (by decide)).mono ?_;rintro e w'⟨rfl,rfl⟩)|(go_at_call 115;refine(CW _ _).mono ?_;rintro e w'⟨rfl,rfl⟩)|(go_at_call 24;refine(Dx _ _ _ _).mono ?_;rintro e w'⟨rfl,rfl⟩));all_goals(go_ret;refine⟨Ag ?_,Ak⟩;simp_all[BX])
theorem Nc(op d a b imm h:Int)(w:World)(h1:1<=op)(h2:op<=34)(hr:Ec op 1 34=true)(kD:A8 (Af op) 68=true)(kA:A8 (Af op) 65=true)(kB:A8 (Af op) 66=false)(kI:A8 (Af op) 73=true)(kH:A8 (Af op) 72=false)
 (kx:(op==11)=false)(ky:(op==12)=false)(kz:(op==13)=true)(kj:Ce op=false)(kl:CX op=0)(kh:Ca op=63):
 Calls Tryz.prog 113 #[.agg #[Vi op,Vi d,Vi a,Vi b,Vi imm,Vi h]] w fun e w'=>e=.returned (.bool (BX op d a b imm h))/\Below w.heap.size w w':=by
 go_enter Tryz.func113,Tryz.ntmps113;go_wp2_with(first|(go_at_call 114;refine(CK _ _).mono ?_;rintro e w'⟨rfl,rfl⟩)|(go_at_call 116;refine(Ct _ _ _ (Bu _) (by decide) (by decide)).mono ?_;rintro e w'⟨rfl,rfl⟩)|(go_at_call 115;refine(CW _ _).mono ?_;rintro e w'⟨rfl,rfl⟩)|(go_at_call 24;refine(Dx _ _ _ _).mono ?_;rintro e w'⟨rfl,rfl⟩));all_goals(go_ret;refine⟨Ag ?_,Ak⟩;simp_all[BX])
theorem Ti(op d a b imm h:Int)(w:World)(h1:1<=op)(h2:op<=34)(hr:Ec op 1 34=true)(kD:A8 (Af op) 68=false)(kA:A8 (Af op) 65=true)(kB:A8 (Af op) 66=true)(kI:A8 (Af op) 73=false)(kH:A8 (Af op) 72=false)
 (kx:(op==11)=false)(ky:(op==12)=false)(kz:(op==13)=false)(kj:Ce op=false)(kl:CX op=(-1000000))(kh:Ca op=1000000):
 Calls Tryz.prog 113 #[.agg #[Vi op,Vi d,Vi a,Vi b,Vi imm,Vi h]] w fun e w'=>e=.returned (.bool (BX op d a b imm h))/\Below w.heap.size w w':=by
 go_enter Tryz.func113,Tryz.ntmps113;go_wp2_with(first|(go_at_call 114;refine(CK _ _).mono ?_;rintro e w'⟨rfl,rfl⟩)|(go_at_call 116;refine(Ct _ _ _ (Bu _) (by decide) (by decide)).mono ?_;rintro e w'⟨rfl,rfl⟩)|(go_at_call 115;refine(CW _ _).mono ?_;rintro e w'⟨rfl,rfl⟩)|(go_at_call 24;refine(Dx _ _ _ _).mono ?_;rintro e w'⟨rfl,rfl⟩));all_goals(go_ret;refine⟨Ag ?_,Ak⟩;simp_all[BX])
theorem UK(op d a b imm h:Int)(w:World)(h1:1<=op)(h2:op<=34)(hr:Ec op 1 34=true)(kD:A8 (Af op) 68=false)(kA:A8 (Af op) 65=true)(kB:A8 (Af op) 66=false)(kI:A8 (Af op) 73=true)(kH:A8 (Af op) 72=false)
 (kx:(op==11)=false)(ky:(op==12)=false)(kz:(op==13)=false)(kj:Ce op=false)(kl:CX op=(-1000000))(kh:Ca op=1000000):
 Calls Tryz.prog 113 #[.agg #[Vi op,Vi d,Vi a,Vi b,Vi imm,Vi h]] w fun e w'=>e=.returned (.bool (BX op d a b imm h))/\Below w.heap.size w w':=by
 go_enter Tryz.func113,Tryz.ntmps113;go_wp2_with(first|(go_at_call 114;refine(CK _ _).mono ?_;rintro e w'⟨rfl,rfl⟩)|(go_at_call 116;refine(Ct _ _ _ (Bu _) (by decide) (by decide)).mono ?_;rintro e w'⟨rfl,rfl⟩)|(go_at_call 115;refine(CW _ _).mono ?_;rintro e w'⟨rfl,rfl⟩)|(go_at_call 24;refine(Dx _ _ _ _).mono ?_;rintro e w'⟨rfl,rfl⟩));all_goals(go_ret;refine⟨Ag ?_,Ak⟩;simp_all[BX])
theorem Qh(op d a b imm h:Int)(w:World)(h1:1<=op)(h2:op<=34)(hr:Ec op 1 34=true)(kD:A8 (Af op) 68=true)(kA:A8 (Af op) 65=true)(kB:A8 (Af op) 66=false)(kI:A8 (Af op) 73=true)(kH:A8 (Af op) 72=true)
 (kx:(op==11)=false)(ky:(op==12)=false)(kz:(op==13)=false)(kj:Ce op=false)(kl:CX op=(-1000000))(kh:Ca op=1000000):
 Calls Tryz.prog 113 #[.agg #[Vi op,Vi d,Vi a,Vi b,Vi imm,Vi h]] w fun e w'=>e=.returned (.bool (BX op d a b imm h))/\Below w.heap.size w w':=by
 go_enter Tryz.func113,Tryz.ntmps113;go_wp2_with(first|(go_at_call 114;refine(CK _ _).mono ?_;rintro e w'⟨rfl,rfl⟩)|(go_at_call 116;refine(Ct _ _ _ (Bu _) (by decide) (by decide)).mono ?_;rintro e w'⟨rfl,rfl⟩)|(go_at_call 115;refine(CW _ _).mono ?_;rintro e w'⟨rfl,rfl⟩)|(go_at_call 24;refine(Dx _ _ _ _).mono ?_;rintro e w'⟨rfl,rfl⟩));all_goals(go_ret;refine⟨Ag ?_,Ak⟩;simp_all[BX])
theorem Pb(op d a b imm h:Int)(w:World)(h1:1<=op)(h2:op<=34)(hr:Ec op 1 34=true)(kD:A8 (Af op) 68=true)(kA:A8 (Af op) 65=true)(kB:A8 (Af op) 66=true)(kI:A8 (Af op) 73=false)(kH:A8 (Af op) 72=true)
 (kx:(op==11)=false)(ky:(op==12)=false)(kz:(op==13)=false)(kj:Ce op=false)(kl:CX op=(-1000000))(kh:Ca op=1000000):
 Calls Tryz.prog 113 #[.agg #[Vi op,Vi d,Vi a,Vi b,Vi imm,Vi h]] w fun e w'=>e=.returned (.bool (BX op d a b imm h))/\Below w.heap.size w w':=by
 go_enter Tryz.func113,Tryz.ntmps113;go_wp2_with(first|(go_at_call 114;refine(CK _ _).mono ?_;rintro e w'⟨rfl,rfl⟩)|(go_at_call 116;refine(Ct _ _ _ (Bu _) (by decide) (by decide)).mono ?_;rintro e w'⟨rfl,rfl⟩)|(go_at_call 115;refine(CW _ _).mono ?_;rintro e w'⟨rfl,rfl⟩)|(go_at_call 24;refine(Dx _ _ _ _).mono ?_;rintro e w'⟨rfl,rfl⟩));all_goals(go_ret;refine⟨Ag ?_,Ak⟩;simp_all[BX])
theorem Pn(op d a b imm h:Int)(w:World)(h1:1<=op)(h2:op<=34)(hr:Ec op 1 34=true)(kD:A8 (Af op) 68=false)(kA:A8 (Af op) 65=false)(kB:A8 (Af op) 66=false)(kI:A8 (Af op) 73=true)(kH:A8 (Af op) 72=false)
 (kx:(op==11)=false)(ky:(op==12)=false)(kz:(op==13)=false)(kj:Ce op=true)(kl:CX op=0)(kh:Ca op=1999):
 Calls Tryz.prog 113 #[.agg #[Vi op,Vi d,Vi a,Vi b,Vi imm,Vi h]] w fun e w'=>e=.returned (.bool (BX op d a b imm h))/\Below w.heap.size w w':=by
 go_enter Tryz.func113,Tryz.ntmps113;go_wp2_with(first|(go_at_call 114;refine(CK _ _).mono ?_;rintro e w'⟨rfl,rfl⟩)|(go_at_call 116;refine(Ct _ _ _ (Bu _) (by decide) (by decide)).mono ?_;rintro e w'⟨rfl,rfl⟩)|(go_at_call 115;refine(CW _ _).mono ?_;rintro e w'⟨rfl,rfl⟩)|(go_at_call 24;refine(Dx _ _ _ _).mono ?_;rintro e w'⟨rfl,rfl⟩));all_goals(go_ret;refine⟨Ag ?_,Ak⟩;simp_all[BX])
theorem PG(op d a b imm h:Int)(w:World)(h1:1<=op)(h2:op<=34)(hr:Ec op 1 34=true)(kD:A8 (Af op) 68=false)(kA:A8 (Af op) 65=false)(kB:A8 (Af op) 66=false)(kI:A8 (Af op) 73=false)(kH:A8 (Af op) 72=false)
 (kx:(op==11)=false)(ky:(op==12)=false)(kz:(op==13)=false)(kj:Ce op=false)(kl:CX op=(-1000000))(kh:Ca op=1000000):
 Calls Tryz.prog 113 #[.agg #[Vi op,Vi d,Vi a,Vi b,Vi imm,Vi h]] w fun e w'=>e=.returned (.bool (BX op d a b imm h))/\Below w.heap.size w w':=by
 go_enter Tryz.func113,Tryz.ntmps113;go_wp2_with(first|(go_at_call 114;refine(CK _ _).mono ?_;rintro e w'⟨rfl,rfl⟩)|(go_at_call 116;refine(Ct _ _ _ (Bu _) (by decide) (by decide)).mono ?_;rintro e w'⟨rfl,rfl⟩)|(go_at_call 115;refine(CW _ _).mono ?_;rintro e w'⟨rfl,rfl⟩)|(go_at_call 24;refine(Dx _ _ _ _).mono ?_;rintro e w'⟨rfl,rfl⟩));all_goals(go_ret;refine⟨Ag ?_,Ak⟩;simp_all[BX])
theorem TJ(op d a b imm h:Int)(w:World)(h1:1<=op)(h2:op<=34)(hr:Ec op 1 34=true)(kD:A8 (Af op) 68=true)(kA:A8 (Af op) 65=true)(kB:A8 (Af op) 66=true)(kI:A8 (Af op) 73=false)(kH:A8 (Af op) 72=false)
 (kx:(op==11)=false)(ky:(op==12)=false)(kz:(op==13)=false)(kj:Ce op=false)(kl:CX op=(-1000000))(kh:Ca op=1000000):
 Calls Tryz.prog 113 #[.agg #[Vi op,Vi d,Vi a,Vi b,Vi imm,Vi h]] w fun e w'=>e=.returned (.bool (BX op d a b imm h))/\Below w.heap.size w w':=by
 go_enter Tryz.func113,Tryz.ntmps113;go_wp2_with(first|(go_at_call 114;refine(CK _ _).mono ?_;rintro e w'⟨rfl,rfl⟩)|(go_at_call 116;refine(Ct _ _ _ (Bu _) (by decide) (by decide)).mono ?_;rintro e w'⟨rfl,rfl⟩)|(go_at_call 115;refine(CW _ _).mono ?_;rintro e w'⟨rfl,rfl⟩)|(go_at_call 24;refine(Dx _ _ _ _).mono ?_;rintro e w'⟨rfl,rfl⟩));all_goals(go_ret;refine⟨Ag ?_,Ak⟩;simp_all[BX])
theorem fU(op:Int):A8 (Af op) 68=DV op 1:=by unfold A8 Af DV Es Eg;(repeat' split);all_goals first|rfl|(exfalso;omega)
theorem fV(op:Int):A8 (Af op) 65=DV op 2:=by unfold A8 Af DV Es Eg;(repeat' split);all_goals first|rfl|(exfalso;omega)
theorem fT(op:Int):A8 (Af op) 66=DV op 4:=by unfold A8 Af DV Es Eg;(repeat' split);all_goals first|rfl|(exfalso;omega)
theorem fF(op:Int):A8 (Af op) 73=DV op 8:=by unfold A8 Af DV Es Eg;(repeat' split);all_goals first|rfl|(exfalso;omega)
theorem fD(op:Int):A8 (Af op) 72=DV op 16:=by unfold A8 Af DV Es Eg;(repeat' split);all_goals first|rfl|(exfalso;omega)
theorem Gw(u:Bool)(v lo hi:Int)(h:lo<=0/\0<=hi):((u||v==0)&&Ec v lo hi)=C8 u v lo hi:=by
 cases u
 ·by_cases g:v=0
  ·subst g;simp[C8,Ec,h.1,h.2]
  ·simp[C8,g]
 ·simp[C8]
theorem dI(op:Int):CX op<=0/\0<=Ca op:=by
 unfold CX Ca;constructor<;>(repeat' split)<;>omega
theorem Xi(op d a b imm h:Int):BX op d a b imm h=Ar op d a b imm h:=by
 unfold BX Ar;rw[fU,fV,fT,fF,fD,<-Gw _ d 0 7 (by omega),<-Gw _ a 0 7 (by omega),<-Gw _ b 0 7 (by omega),<-Gw _ h 0 7 (by omega),<-Gw _ imm _ _ (dI op)];ac_rfl
theorem TI(op d a b imm h:Int)(w:World)(hr:¬(1<=op/\op<=34)):
 Calls Tryz.prog 113 #[.agg #[Vi op,Vi d,Vi a,Vi b,Vi imm,Vi h]] w fun e w'=>e=.returned (.bool (BX op d a b imm h))/\Below w.heap.size w w':=by
 by_cases h1:1<=op
 ·have h2:34<op:=by omega
  go_enter Tryz.func113,Tryz.ntmps113;go_wp2;go_ret;refine⟨Ag ?_,Ak⟩;have:Ec op 1 34=false:=by simp[Ec];omega
  simp[BX,this]
 ·have h2:op<1:=by omega
  go_enter Tryz.func113,Tryz.ntmps113;go_wp2;go_ret;refine⟨Ag ?_,Ak⟩;have:Ec op 1 34=false:=by simp[Ec];omega
  simp[BX,this]
theorem YF(op:Int)(h1:1<=op)(h2:op<=34):op=1∨op=2∨op=10∨op=11∨op=12∨op=13∨op=17∨op=18∨(21<=op/\op<=24)∨(25<=op/\op<=28)∨(29<=op/\op<=33)∨op=34∨((3<=op/\op<=9)∨(14<=op/\op<=16)∨(19<=op/\op<=20)):=by omega
theorem En(op d a b imm h:Int)(w:World):
 Calls Tryz.prog 113 #[.agg #[Vi op,Vi d,Vi a,Vi b,Vi imm,Vi h]] w fun e w'=>e=.returned (.bool (Ar op d a b imm h))/\Below w.heap.size w w':=by
 rw[<-Xi];by_cases hr:1<=op/\op<=34
 ·obtain⟨h1,h2⟩:=hr
  have hi:Ec op 1 34=true:=by simp[Ec];omega
  rcases YF op h1 h2 with e|e|e|e|e|e|e|e|e|e|e|e|e
  ·subst e;exact UR _ _ _ _ _ _ _ h1 h2 hi (by rfl) (by rfl) (by rfl) (by rfl) (by rfl) (by rfl) (by rfl) (by rfl) (by rfl) (by rfl) (by rfl)
  ·subst e;exact Uc _ _ _ _ _ _ _ h1 h2 hi (by rfl) (by rfl) (by rfl) (by rfl) (by rfl) (by rfl) (by rfl) (by rfl) (by rfl) (by rfl) (by rfl)
  ·subst e;exact Qu _ _ _ _ _ _ _ h1 h2 hi (by rfl) (by rfl) (by rfl) (by rfl) (by rfl) (by rfl) (by rfl) (by rfl) (by rfl) (by rfl) (by rfl)
  ·subst e;exact Nz _ _ _ _ _ _ _ h1 h2 hi (by rfl) (by rfl) (by rfl) (by rfl) (by rfl) (by rfl) (by rfl) (by rfl) (by rfl) (by rfl) (by rfl)
  ·subst e;exact Nl _ _ _ _ _ _ _ h1 h2 hi (by rfl) (by rfl) (by rfl) (by rfl) (by rfl) (by rfl) (by rfl) (by rfl) (by rfl) (by rfl) (by rfl)
  ·subst e;exact Nc _ _ _ _ _ _ _ h1 h2 hi (by rfl) (by rfl) (by rfl) (by rfl) (by rfl) (by rfl) (by rfl) (by rfl) (by rfl) (by rfl) (by rfl)
  ·subst e;exact Ti _ _ _ _ _ _ _ h1 h2 hi (by rfl) (by rfl) (by rfl) (by rfl) (by rfl) (by rfl) (by rfl) (by rfl) (by rfl) (by rfl) (by rfl)
  ·subst e;exact UK _ _ _ _ _ _ _ h1 h2 hi (by rfl) (by rfl) (by rfl) (by rfl) (by rfl) (by rfl) (by rfl) (by rfl) (by rfl) (by rfl) (by rfl)
  ·have hu:Es op=[68,65,73,72]:=by unfold Es;(repeat' split);all_goals first|rfl|(exfalso;omega)
   exact Qh _ _ _ _ _ _ _ h1 h2 hi (by unfold Af;rw[hu];rfl) (by unfold Af;rw[hu];rfl) (by unfold Af;rw[hu];rfl) (by unfold Af;rw[hu];rfl) (by unfold Af;rw[hu];rfl) (by simp;omega) (by simp;omega) (by simp;omega) (by simp[Ce];omega) (by unfold CX;rw[if_neg (by omega)]) (by unfold Ca;rw[if_neg (by omega),if_neg (by omega)])
  ·have hu:Es op=[68,65,66,72]:=by unfold Es;(repeat' split);all_goals first|rfl|(exfalso;omega)
   exact Pb _ _ _ _ _ _ _ h1 h2 hi (by unfold Af;rw[hu];rfl) (by unfold Af;rw[hu];rfl) (by unfold Af;rw[hu];rfl) (by unfold Af;rw[hu];rfl) (by unfold Af;rw[hu];rfl) (by simp;omega) (by simp;omega) (by simp;omega) (by simp[Ce];omega) (by unfold CX;rw[if_neg (by omega)]) (by unfold Ca;rw[if_neg (by omega),if_neg (by omega)])
  ·have hu:Es op=[73]:=by unfold Es;(repeat' split);all_goals first|rfl|(exfalso;omega)
   exact Pn _ _ _ _ _ _ _ h1 h2 hi (by unfold Af;rw[hu];rfl) (by unfold Af;rw[hu];rfl) (by unfold Af;rw[hu];rfl) (by unfold Af;rw[hu];rfl) (by unfold Af;rw[hu];rfl) (by simp;omega) (by simp;omega) (by simp;omega) (by simp[Ce];omega) (by unfold CX;rw[if_pos (by omega)]) (by unfold Ca;rw[if_neg (by omega),if_pos (by omega)])
  ·subst e;exact PG _ _ _ _ _ _ _ h1 h2 hi (by rfl) (by rfl) (by rfl) (by rfl) (by rfl) (by rfl) (by rfl) (by rfl) (by rfl) (by rfl) (by rfl)
  ·have hu:Es op=[68,65,66]:=by unfold Es;(repeat' split);all_goals first|rfl|(exfalso;omega)
   exact TJ _ _ _ _ _ _ _ h1 h2 hi (by unfold Af;rw[hu];rfl) (by unfold Af;rw[hu];rfl) (by unfold Af;rw[hu];rfl) (by unfold Af;rw[hu];rfl) (by unfold Af;rw[hu];rfl) (by simp;omega) (by simp;omega) (by simp;omega) (by simp[Ce];omega) (by unfold CX;rw[if_neg (by omega)]) (by unfold Ca;rw[if_neg (by omega),if_neg (by omega)])
 ·exact TI _ _ _ _ _ _ _ hr
end Go.Proofs.YtfpeecaaleijcaaGreatDoor
