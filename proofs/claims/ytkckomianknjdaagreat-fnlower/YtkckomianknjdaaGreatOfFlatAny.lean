import Derived.Test.YtkckomianknjdaaGreatOfCoreF
import Derived.Test.YtkckomianknjdaaGreatRows
import Derived.WalkKit
import Derived.WalkSpells
import Derived.WalkLawsBesides
import Derived.Deep.QuietTactic
import Derived.BigQuiet
import Derived.Deep.RegionWith
import Derived.BigRegion
set_option maxHeartbeats 1000000
namespace Go.Proofs.YtkckomianknjdaaGreat
open Go.RowKit
variable {u:Nat}{F:Nat->Nat->Int}
theorem DJ(a:Int)(w:World):
 Calls Tryz.prog 60 #[Vi a] w fun e b=>e=.returned (.string (Ag a))/\b=w:=by
 go_enter Tryz.func60,Tryz.ntmps60;go_wp2;all_goals(go_ret;refine⟨Yi ?_,rfl⟩;simp_all[Ag,Fx])
theorem Tp(a:Int)(w:World):
 Calls Tryz.prog 117 #[Vi a] w fun e b=>e=.returned (Vi (Gg a))/\b=w:=by
 go_enter Tryz.func117,Tryz.ntmps117;go_wp2;all_goals(go_ret;refine⟨Bb ?_,rfl⟩;simp_all[Gg])
theorem TW(a:Int)(w:World):
 Calls Tryz.prog 118 #[Vi a] w fun e b=>e=.returned (.tuple #[Vi (Cv a),Vi (DI a)])/\b=w:=by
 go_enter Tryz.func118,Tryz.ntmps118;go_wp2;all_goals(go_ret2;refine⟨WO ?_ ?_,rfl⟩<;>simp_all[Cv,DI]<;>omega)
theorem DK(a:Int)(w:World):
 Calls Tryz.prog 32 #[Vi a] w fun e b=>e=.returned (.bool (Df a))/\b=w:=by
 go_enter Tryz.func32,Tryz.ntmps32;go_wp2;all_goals(go_ret;refine⟨AZ ?_,rfl⟩;simp[Df]<;>omega)
theorem U1(a:Int)(w:World):
 Calls Tryz.prog 63 #[Vi a] w fun e b=>e=.returned (.bool (Df a))/\b=w:=by
 go_enter Tryz.func63,Tryz.ntmps63;go_wp2;all_goals(go_ret;refine⟨AZ ?_,rfl⟩;simp[Df]<;>omega)
theorem EJ(x b a:Int)(w:World):
 Calls Tryz.prog 19 #[Vi x,Vi b,Vi a] w fun e c=>e=.returned (.bool (Dm x b a))/\c=w:=by
 go_enter Tryz.func19,Tryz.ntmps19;go_wp2;all_goals(go_ret;refine⟨AZ ?_,rfl⟩;simp[Dm]<;>omega)
theorem U3(u:Bool)(x b a:Int)(w:World):
 Calls Tryz.prog 119 #[.bool u,Vi x,Vi b,Vi a] w fun e c=>e=.returned (.bool (Da u x b a))/\c=w:=by
 go_enter Tryz.func119,Tryz.ntmps119;go_wp2;all_goals(go_ret;refine⟨AZ ?_,rfl⟩;cases u<;>simp_all[Da,Dm]<;>omega)
theorem Y3(s:ByteArray)(b:UInt8)(w:World)(m:s.size<=maxLen):
 Calls Tryz.prog 61 #[.string s,.int .u8 b.toNat] w fun e n=>e=.returned (.bool (hasB s b))/\n=w:=by
 unfold maxLen at m;go_enter Tryz.func61,Tryz.ntmps61;go_wp2;go_loop [5](fun i=>∃k:Nat,k<=s.size/\i=Vi k/\(s.data.toList.take k).contains b=false)(fun i=>s.size-(intOf i).toNat)
 case atStart=>exact⟨0,Nat.zero_le _,rfl,rfl⟩
 case round=>
  obtain⟨k,l,rfl,c⟩:=hrel;have d:=hxy c;by_cases a:k<s.size
  ·have j:=hxy (U9 s k a)
   go_wp2
   ·go_ret
    refine⟨AZ ?_,rfl⟩;have h:((s[k].toNat:Int)==(b.toNat:Int))=true:=by assumption
    exact(Zb s b k a h).symm
   ·go_round
    case rel=>exact⟨k+1,AB,by go_num,iI s b k d j (by assumption)⟩
    case measure=>simp[intOf];omega
  ·go_wp2
   go_ret;exact⟨AZ (Zh s b k l AB d).symm,rfl⟩
def BN(s:ByteArray)(n:Int):Bool:=hasB s (UInt8.ofNat n.toNat)
theorem Dy(s:ByteArray)(n:Int)(w:World)(a:s.size<=maxLen)(c:0<=n)(d:n<=255):
 Calls Tryz.prog 61 #[.string s,.int .u8 n] w fun e b=>e=.returned (.bool (BN s n))/\b=w:=by
 have:=Y3 s (UInt8.ofNat n.toNat) w a;rw[show((UInt8.ofNat n.toNat).toNat:Int)=n from by simp;omega]at this;exact this
theorem Cf(a:Int):(Ag a).size<=maxLen:=by
 unfold Ag Fx maxLen;repeat' split
 all_goals decide
def lK(op d a b imm h:Int):Bool:=
 Dm op 1 34&&(BN (Ag op) 68||d==0)&&(BN (Ag op) 65||a==0)&&(BN (Ag op) 66||b==0)&&(BN (Ag op) 73||imm==0)&&(BN (Ag op) 72||h==0)&&
  Dm d 0 7&&Dm a 0 7&&Dm b 0 7&&Dm h 0 7&&Dm imm (Cv op) (DI op)
def Cc(op k:Int):Bool:=bits BinOp.and IntKind.i64 (Gg op) k !=0
def Ar(op d a b imm h:Int):Bool:=
 Dm op 1 34&&Da (Cc op 1) d 0 7&&Da (Cc op 2) a 0 7&&Da (Cc op 4) b 0 7&&Da (Cc op 8) imm (Cv op) (DI op)&&Da (Cc op 16) h 0 7
theorem LM(c d a b j h:Int)(w:World):
 Calls Tryz.prog 62 #[.agg #[Vi c,Vi d,Vi a,Vi b,Vi j,Vi h]] w fun e k=>e=.returned (.bool (Ar c d a b j h))/\Below w.heap.size w k:=by
 by_cases n:1<=c/\c<=34
 ·obtain⟨m,l⟩:=n
  go_enter Tryz.func62,Tryz.ntmps62;go_wp2_with(first|(go_at_call 117;refine(Tp _ _).mono ?_;rintro e k⟨rfl,rfl⟩)|(go_at_call 118;refine(TW _ _).mono ?_;rintro e k⟨rfl,rfl⟩)|(go_at_call 119;refine(U3 _ _ _ _ _).mono ?_;rintro e k⟨rfl,rfl⟩));all_goals(go_ret;refine⟨AZ ?_,Ah⟩;simp_all[Ar,Cc,Dm])
 ·by_cases m:1<=c
  ·have l:34<c:=AB
   go_enter Tryz.func62,Tryz.ntmps62;go_wp2;go_ret;refine⟨AZ ?_,Ah⟩;have:Dm c 1 34=false:=by simp[Dm];omega
   simp[Ar,this]
  ·have l:c<1:=AB
   go_enter Tryz.func62,Tryz.ntmps62;go_wp2;go_ret;refine⟨AZ ?_,Ah⟩;have:Dm c 1 34=false:=by simp[Dm];omega
   simp[Ar,this]
theorem UN(c d a b j h:Int)(w:World)(l:1<=c)(m:c<=34)(n:Dm c 1 34=true)(q:BN (Ag c) 68=true)(o:BN (Ag c) 65=true)(p:BN (Ag c) 66=false)(s:BN (Ag c) 73=false)(r:BN (Ag c) 72=false)
 (z:(c==11)=false)(A:(c==12)=false)(B:(c==13)=false)(x:Df c=false)(y:Cv c=(-1000000))(u:DI c=1000000):
 Calls Tryz.prog 31 #[.agg #[Vi c,Vi d,Vi a,Vi b,Vi j,Vi h]] w fun e k=>e=.returned (.bool (lK c d a b j h))/\Below w.heap.size w k:=by
 go_enter Tryz.func31,Tryz.ntmps31;go_wp2_with(first|(go_at_call 60;refine(DJ _ _).mono ?_;rintro e k⟨rfl,rfl⟩)|(go_at_call 61;refine(Dy _ _ _ (Cf _) Aa Aa).mono ?_;rintro e k⟨rfl,rfl⟩)|(go_at_call 32;refine(DK _ _).mono ?_;rintro e k⟨rfl,rfl⟩)|(go_at_call 19;refine(EJ _ _ _ _).mono ?_;rintro e k⟨rfl,rfl⟩));all_goals(go_ret;refine⟨AZ ?_,Ah⟩;simp_all[lK])
theorem UD(c d a b j h:Int)(w:World)(l:1<=c)(m:c<=34)(n:Dm c 1 34=true)(q:BN (Ag c) 68=true)(o:BN (Ag c) 65=false)(p:BN (Ag c) 66=false)(s:BN (Ag c) 73=true)(r:BN (Ag c) 72=false)
 (z:(c==11)=false)(A:(c==12)=false)(B:(c==13)=false)(x:Df c=false)(y:Cv c=(-1000000))(u:DI c=1000000):
 Calls Tryz.prog 31 #[.agg #[Vi c,Vi d,Vi a,Vi b,Vi j,Vi h]] w fun e k=>e=.returned (.bool (lK c d a b j h))/\Below w.heap.size w k:=by
 go_enter Tryz.func31,Tryz.ntmps31;go_wp2_with(first|(go_at_call 60;refine(DJ _ _).mono ?_;rintro e k⟨rfl,rfl⟩)|(go_at_call 61;refine(Dy _ _ _ (Cf _) Aa Aa).mono ?_;rintro e k⟨rfl,rfl⟩)|(go_at_call 32;refine(DK _ _).mono ?_;rintro e k⟨rfl,rfl⟩)|(go_at_call 19;refine(EJ _ _ _ _).mono ?_;rintro e k⟨rfl,rfl⟩));all_goals(go_ret;refine⟨AZ ?_,Ah⟩;simp_all[lK])
theorem Qy(c d a b j h:Int)(w:World)(l:1<=c)(m:c<=34)(n:Dm c 1 34=true)(q:BN (Ag c) 68=true)(o:BN (Ag c) 65=true)(p:BN (Ag c) 66=false)(s:BN (Ag c) 73=true)(r:BN (Ag c) 72=false)
 (z:(c==11)=false)(A:(c==12)=false)(B:(c==13)=false)(x:Df c=false)(y:Cv c=(-1000000))(u:DI c=1000000):
 Calls Tryz.prog 31 #[.agg #[Vi c,Vi d,Vi a,Vi b,Vi j,Vi h]] w fun e k=>e=.returned (.bool (lK c d a b j h))/\Below w.heap.size w k:=by
 go_enter Tryz.func31,Tryz.ntmps31;go_wp2_with(first|(go_at_call 60;refine(DJ _ _).mono ?_;rintro e k⟨rfl,rfl⟩)|(go_at_call 61;refine(Dy _ _ _ (Cf _) Aa Aa).mono ?_;rintro e k⟨rfl,rfl⟩)|(go_at_call 32;refine(DK _ _).mono ?_;rintro e k⟨rfl,rfl⟩)|(go_at_call 19;refine(EJ _ _ _ _).mono ?_;rintro e k⟨rfl,rfl⟩));all_goals(go_ret;refine⟨AZ ?_,Ah⟩;simp_all[lK])
theorem OG(c d a b j h:Int)(w:World)(l:1<=c)(m:c<=34)(n:Dm c 1 34=true)(q:BN (Ag c) 68=true)(o:BN (Ag c) 65=true)(p:BN (Ag c) 66=false)(s:BN (Ag c) 73=true)(r:BN (Ag c) 72=false)
 (z:(c==11)=true)(A:(c==12)=false)(B:(c==13)=false)(x:Df c=false)(y:Cv c=0)(u:DI c=1000000):
 Calls Tryz.prog 31 #[.agg #[Vi c,Vi d,Vi a,Vi b,Vi j,Vi h]] w fun e k=>e=.returned (.bool (lK c d a b j h))/\Below w.heap.size w k:=by
 go_enter Tryz.func31,Tryz.ntmps31;go_wp2_with(first|(go_at_call 60;refine(DJ _ _).mono ?_;rintro e k⟨rfl,rfl⟩)|(go_at_call 61;refine(Dy _ _ _ (Cf _) Aa Aa).mono ?_;rintro e k⟨rfl,rfl⟩)|(go_at_call 32;refine(DK _ _).mono ?_;rintro e k⟨rfl,rfl⟩)|(go_at_call 19;refine(EJ _ _ _ _).mono ?_;rintro e k⟨rfl,rfl⟩));all_goals(go_ret;refine⟨AZ ?_,Ah⟩;simp_all[lK])
theorem Oc(c d a b j h:Int)(w:World)(l:1<=c)(m:c<=34)(n:Dm c 1 34=true)(q:BN (Ag c) 68=true)(o:BN (Ag c) 65=true)(p:BN (Ag c) 66=false)(s:BN (Ag c) 73=true)(r:BN (Ag c) 72=false)
 (z:(c==11)=false)(A:(c==12)=true)(_kz:(c==13)=false)(x:Df c=false)(y:Cv c=0)(u:DI c=63):
 Calls Tryz.prog 31 #[.agg #[Vi c,Vi d,Vi a,Vi b,Vi j,Vi h]] w fun e k=>e=.returned (.bool (lK c d a b j h))/\Below w.heap.size w k:=by
 go_enter Tryz.func31,Tryz.ntmps31;go_wp2_with(first|(go_at_call 60;refine(DJ _ _).mono ?_;rintro e k⟨rfl,rfl⟩)|(go_at_call 61;refine(Dy _ _ _ (Cf _) Aa Aa).mono ?_;rintro e k⟨rfl,rfl⟩)|(go_at_call 32;refine(DK _ _).mono ?_;rintro e k⟨rfl,rfl⟩)|(go_at_call 19;refine(EJ _ _ _ _).mono ?_;rintro e k⟨rfl,rfl⟩));all_goals(go_ret;refine⟨AZ ?_,Ah⟩;simp_all[lK])
theorem OL(c d a b j h:Int)(w:World)(l:1<=c)(m:c<=34)(n:Dm c 1 34=true)(q:BN (Ag c) 68=true)(o:BN (Ag c) 65=true)(p:BN (Ag c) 66=false)(s:BN (Ag c) 73=true)(r:BN (Ag c) 72=false)
 (z:(c==11)=false)(A:(c==12)=false)(B:(c==13)=true)(x:Df c=false)(y:Cv c=0)(u:DI c=63):
 Calls Tryz.prog 31 #[.agg #[Vi c,Vi d,Vi a,Vi b,Vi j,Vi h]] w fun e k=>e=.returned (.bool (lK c d a b j h))/\Below w.heap.size w k:=by
 go_enter Tryz.func31,Tryz.ntmps31;go_wp2_with(first|(go_at_call 60;refine(DJ _ _).mono ?_;rintro e k⟨rfl,rfl⟩)|(go_at_call 61;refine(Dy _ _ _ (Cf _) Aa Aa).mono ?_;rintro e k⟨rfl,rfl⟩)|(go_at_call 32;refine(DK _ _).mono ?_;rintro e k⟨rfl,rfl⟩)|(go_at_call 19;refine(EJ _ _ _ _).mono ?_;rintro e k⟨rfl,rfl⟩));all_goals(go_ret;refine⟨AZ ?_,Ah⟩;simp_all[lK])
theorem UK(c d a b j h:Int)(w:World)(l:1<=c)(m:c<=34)(n:Dm c 1 34=true)(q:BN (Ag c) 68=false)(o:BN (Ag c) 65=true)(p:BN (Ag c) 66=true)(s:BN (Ag c) 73=false)(r:BN (Ag c) 72=false)
 (z:(c==11)=false)(A:(c==12)=false)(B:(c==13)=false)(x:Df c=false)(y:Cv c=(-1000000))(u:DI c=1000000):
 Calls Tryz.prog 31 #[.agg #[Vi c,Vi d,Vi a,Vi b,Vi j,Vi h]] w fun e k=>e=.returned (.bool (lK c d a b j h))/\Below w.heap.size w k:=by
 go_enter Tryz.func31,Tryz.ntmps31;go_wp2_with(first|(go_at_call 60;refine(DJ _ _).mono ?_;rintro e k⟨rfl,rfl⟩)|(go_at_call 61;refine(Dy _ _ _ (Cf _) Aa Aa).mono ?_;rintro e k⟨rfl,rfl⟩)|(go_at_call 32;refine(DK _ _).mono ?_;rintro e k⟨rfl,rfl⟩)|(go_at_call 19;refine(EJ _ _ _ _).mono ?_;rintro e k⟨rfl,rfl⟩));all_goals(go_ret;refine⟨AZ ?_,Ah⟩;simp_all[lK])
theorem UA(c d a b j h:Int)(w:World)(l:1<=c)(m:c<=34)(n:Dm c 1 34=true)(q:BN (Ag c) 68=false)(o:BN (Ag c) 65=true)(p:BN (Ag c) 66=false)(s:BN (Ag c) 73=true)(r:BN (Ag c) 72=false)
 (z:(c==11)=false)(A:(c==12)=false)(B:(c==13)=false)(x:Df c=false)(y:Cv c=(-1000000))(u:DI c=1000000):
 Calls Tryz.prog 31 #[.agg #[Vi c,Vi d,Vi a,Vi b,Vi j,Vi h]] w fun e k=>e=.returned (.bool (lK c d a b j h))/\Below w.heap.size w k:=by
 go_enter Tryz.func31,Tryz.ntmps31;go_wp2_with(first|(go_at_call 60;refine(DJ _ _).mono ?_;rintro e k⟨rfl,rfl⟩)|(go_at_call 61;refine(Dy _ _ _ (Cf _) Aa Aa).mono ?_;rintro e k⟨rfl,rfl⟩)|(go_at_call 32;refine(DK _ _).mono ?_;rintro e k⟨rfl,rfl⟩)|(go_at_call 19;refine(EJ _ _ _ _).mono ?_;rintro e k⟨rfl,rfl⟩));all_goals(go_ret;refine⟨AZ ?_,Ah⟩;simp_all[lK])
theorem QV(c d a b j h:Int)(w:World)(l:1<=c)(m:c<=34)(n:Dm c 1 34=true)(q:BN (Ag c) 68=true)(o:BN (Ag c) 65=true)(p:BN (Ag c) 66=false)(s:BN (Ag c) 73=true)(r:BN (Ag c) 72=true)
 (z:(c==11)=false)(A:(c==12)=false)(B:(c==13)=false)(x:Df c=false)(y:Cv c=(-1000000))(u:DI c=1000000):
 Calls Tryz.prog 31 #[.agg #[Vi c,Vi d,Vi a,Vi b,Vi j,Vi h]] w fun e k=>e=.returned (.bool (lK c d a b j h))/\Below w.heap.size w k:=by
 go_enter Tryz.func31,Tryz.ntmps31;go_wp2_with(first|(go_at_call 60;refine(DJ _ _).mono ?_;rintro e k⟨rfl,rfl⟩)|(go_at_call 61;refine(Dy _ _ _ (Cf _) Aa Aa).mono ?_;rintro e k⟨rfl,rfl⟩)|(go_at_call 32;refine(DK _ _).mono ?_;rintro e k⟨rfl,rfl⟩)|(go_at_call 19;refine(EJ _ _ _ _).mono ?_;rintro e k⟨rfl,rfl⟩));all_goals(go_ret;refine⟨AZ ?_,Ah⟩;simp_all[lK])
theorem Px(c d a b j h:Int)(w:World)(l:1<=c)(m:c<=34)(n:Dm c 1 34=true)(q:BN (Ag c) 68=true)(o:BN (Ag c) 65=true)(p:BN (Ag c) 66=true)(s:BN (Ag c) 73=false)(r:BN (Ag c) 72=true)
 (z:(c==11)=false)(A:(c==12)=false)(B:(c==13)=false)(x:Df c=false)(y:Cv c=(-1000000))(u:DI c=1000000):
 Calls Tryz.prog 31 #[.agg #[Vi c,Vi d,Vi a,Vi b,Vi j,Vi h]] w fun e k=>e=.returned (.bool (lK c d a b j h))/\Below w.heap.size w k:=by
 go_enter Tryz.func31,Tryz.ntmps31;go_wp2_with(first|(go_at_call 60;refine(DJ _ _).mono ?_;rintro e k⟨rfl,rfl⟩)|(go_at_call 61;refine(Dy _ _ _ (Cf _) Aa Aa).mono ?_;rintro e k⟨rfl,rfl⟩)|(go_at_call 32;refine(DK _ _).mono ?_;rintro e k⟨rfl,rfl⟩)|(go_at_call 19;refine(EJ _ _ _ _).mono ?_;rintro e k⟨rfl,rfl⟩));all_goals(go_ret;refine⟨AZ ?_,Ah⟩;simp_all[lK])
theorem Pd(c d a b j h:Int)(w:World)(l:1<=c)(m:c<=34)(n:Dm c 1 34=true)(q:BN (Ag c) 68=false)(o:BN (Ag c) 65=false)(p:BN (Ag c) 66=false)(s:BN (Ag c) 73=true)(r:BN (Ag c) 72=false)
 (z:(c==11)=false)(A:(c==12)=false)(B:(c==13)=false)(x:Df c=true)(y:Cv c=0)(u:DI c=1999):
 Calls Tryz.prog 31 #[.agg #[Vi c,Vi d,Vi a,Vi b,Vi j,Vi h]] w fun e k=>e=.returned (.bool (lK c d a b j h))/\Below w.heap.size w k:=by
 go_enter Tryz.func31,Tryz.ntmps31;go_wp2_with(first|(go_at_call 60;refine(DJ _ _).mono ?_;rintro e k⟨rfl,rfl⟩)|(go_at_call 61;refine(Dy _ _ _ (Cf _) Aa Aa).mono ?_;rintro e k⟨rfl,rfl⟩)|(go_at_call 32;refine(DK _ _).mono ?_;rintro e k⟨rfl,rfl⟩)|(go_at_call 19;refine(EJ _ _ _ _).mono ?_;rintro e k⟨rfl,rfl⟩));all_goals(go_ret;refine⟨AZ ?_,Ah⟩;simp_all[lK])
theorem Po(c d a b j h:Int)(w:World)(l:1<=c)(m:c<=34)(n:Dm c 1 34=true)(q:BN (Ag c) 68=false)(o:BN (Ag c) 65=false)(p:BN (Ag c) 66=false)(s:BN (Ag c) 73=false)(r:BN (Ag c) 72=false)
 (z:(c==11)=false)(A:(c==12)=false)(B:(c==13)=false)(x:Df c=false)(y:Cv c=(-1000000))(u:DI c=1000000):
 Calls Tryz.prog 31 #[.agg #[Vi c,Vi d,Vi a,Vi b,Vi j,Vi h]] w fun e k=>e=.returned (.bool (lK c d a b j h))/\Below w.heap.size w k:=by
 go_enter Tryz.func31,Tryz.ntmps31;go_wp2_with(first|(go_at_call 60;refine(DJ _ _).mono ?_;rintro e k⟨rfl,rfl⟩)|(go_at_call 61;refine(Dy _ _ _ (Cf _) Aa Aa).mono ?_;rintro e k⟨rfl,rfl⟩)|(go_at_call 32;refine(DK _ _).mono ?_;rintro e k⟨rfl,rfl⟩)|(go_at_call 19;refine(EJ _ _ _ _).mono ?_;rintro e k⟨rfl,rfl⟩));all_goals(go_ret;refine⟨AZ ?_,Ah⟩;simp_all[lK])
theorem Qu(c d a b j h:Int)(w:World)(l:1<=c)(m:c<=34)(n:Dm c 1 34=true)(q:BN (Ag c) 68=true)(o:BN (Ag c) 65=true)(p:BN (Ag c) 66=true)(s:BN (Ag c) 73=false)(r:BN (Ag c) 72=false)
 (z:(c==11)=false)(A:(c==12)=false)(B:(c==13)=false)(x:Df c=false)(y:Cv c=(-1000000))(u:DI c=1000000):
 Calls Tryz.prog 31 #[.agg #[Vi c,Vi d,Vi a,Vi b,Vi j,Vi h]] w fun e k=>e=.returned (.bool (lK c d a b j h))/\Below w.heap.size w k:=by
 go_enter Tryz.func31,Tryz.ntmps31;go_wp2_with(first|(go_at_call 60;refine(DJ _ _).mono ?_;rintro e k⟨rfl,rfl⟩)|(go_at_call 61;refine(Dy _ _ _ (Cf _) Aa Aa).mono ?_;rintro e k⟨rfl,rfl⟩)|(go_at_call 32;refine(DK _ _).mono ?_;rintro e k⟨rfl,rfl⟩)|(go_at_call 19;refine(EJ _ _ _ _).mono ?_;rintro e k⟨rfl,rfl⟩));all_goals(go_ret;refine⟨AZ ?_,Ah⟩;simp_all[lK])
theorem jQ(a:Int):BN (Ag a) 68=Cc a 1:=by unfold BN Ag Cc Fx Gg;(repeat' split);all_goals first|rfl|(exfalso;omega)
theorem jS(a:Int):BN (Ag a) 65=Cc a 2:=by unfold BN Ag Cc Fx Gg;(repeat' split);all_goals first|rfl|(exfalso;omega)
theorem jF(a:Int):BN (Ag a) 66=Cc a 4:=by unfold BN Ag Cc Fx Gg;(repeat' split);all_goals first|rfl|(exfalso;omega)
theorem jX(a:Int):BN (Ag a) 73=Cc a 8:=by unfold BN Ag Cc Fx Gg;(repeat' split);all_goals first|rfl|(exfalso;omega)
theorem jK(a:Int):BN (Ag a) 72=Cc a 16:=by unfold BN Ag Cc Fx Gg;(repeat' split);all_goals first|rfl|(exfalso;omega)
theorem Iy(u:Bool)(v b a:Int)(h:b<=0/\0<=a):((u||v==0)&&Dm v b a)=Da u v b a:=by
 cases u
 ·by_cases g:v=0
  ·subst g;simp[Da,Dm,h.1,h.2]
  ·simp[Da,g]
 ·simp[Da]
theorem gT(a:Int):Cv a<=0/\0<=DI a:=by
 unfold Cv DI;constructor<;>(repeat' split)<;>omega
theorem Xd(e d a b c h:Int):lK e d a b c h=Ar e d a b c h:=by
 unfold lK Ar;rw[jQ,jS,jF,jX,jK,<-Iy _ d 0 7 AB,<-Iy _ a 0 7 AB,<-Iy _ b 0 7 AB,<-Iy _ h 0 7 AB,<-Iy _ c _ _ (gT e)];ac_rfl
theorem SH(c d a b j h:Int)(w:World)(n:¬(1<=c/\c<=34)):
 Calls Tryz.prog 31 #[.agg #[Vi c,Vi d,Vi a,Vi b,Vi j,Vi h]] w fun e l=>e=.returned (.bool (lK c d a b j h))/\Below w.heap.size w l:=by
 by_cases m:1<=c
 ·have k:34<c:=AB
  go_enter Tryz.func31,Tryz.ntmps31;go_wp2;go_ret;refine⟨AZ ?_,Ah⟩;have:Dm c 1 34=false:=by simp[Dm];omega
  simp[lK,this]
 ·have k:c<1:=AB
  go_enter Tryz.func31,Tryz.ntmps31;go_wp2;go_ret;refine⟨AZ ?_,Ah⟩;have:Dm c 1 34=false:=by simp[Dm];omega
  simp[lK,this]
theorem WW(a:Int)(b:1<=a)(c:a<=34):a=1∨a=2∨a=10∨a=11∨a=12∨a=13∨a=17∨a=18∨(21<=a/\a<=24)∨(25<=a/\a<=28)∨(29<=a/\a<=33)∨a=34∨((3<=a/\a<=9)∨(14<=a/\a<=16)∨(19<=a/\a<=20)):=AB
theorem FH(m d a b n h:Int)(w:World):
 Calls Tryz.prog 31 #[.agg #[Vi m,Vi d,Vi a,Vi b,Vi n,Vi h]] w fun e p=>e=.returned (.bool (Ar m d a b n h))/\Below w.heap.size w p:=by
 rw[<-Xd];by_cases o:1<=m/\m<=34
 ·obtain⟨j,k⟩:=o
  have l:Dm m 1 34=true:=by simp[Dm];omega
  rcases WW m j k with e|e|e|e|e|e|e|e|e|e|e|e|e
  ·subst e;exact UN _ _ _ _ _ _ _ j k l (by rfl) (by rfl) (by rfl) (by rfl) (by rfl) (by rfl) (by rfl) (by rfl) (by rfl) (by rfl) (by rfl)
  ·subst e;exact UD _ _ _ _ _ _ _ j k l (by rfl) (by rfl) (by rfl) (by rfl) (by rfl) (by rfl) (by rfl) (by rfl) (by rfl) (by rfl) (by rfl)
  ·subst e;exact Qy _ _ _ _ _ _ _ j k l (by rfl) (by rfl) (by rfl) (by rfl) (by rfl) (by rfl) (by rfl) (by rfl) (by rfl) (by rfl) (by rfl)
  ·subst e;exact OG _ _ _ _ _ _ _ j k l (by rfl) (by rfl) (by rfl) (by rfl) (by rfl) (by rfl) (by rfl) (by rfl) (by rfl) (by rfl) (by rfl)
  ·subst e;exact Oc _ _ _ _ _ _ _ j k l (by rfl) (by rfl) (by rfl) (by rfl) (by rfl) (by rfl) (by rfl) (by rfl) (by rfl) (by rfl) (by rfl)
  ·subst e;exact OL _ _ _ _ _ _ _ j k l (by rfl) (by rfl) (by rfl) (by rfl) (by rfl) (by rfl) (by rfl) (by rfl) (by rfl) (by rfl) (by rfl)
  ·subst e;exact UK _ _ _ _ _ _ _ j k l (by rfl) (by rfl) (by rfl) (by rfl) (by rfl) (by rfl) (by rfl) (by rfl) (by rfl) (by rfl) (by rfl)
  ·subst e;exact UA _ _ _ _ _ _ _ j k l (by rfl) (by rfl) (by rfl) (by rfl) (by rfl) (by rfl) (by rfl) (by rfl) (by rfl) (by rfl) (by rfl)
  ·have c:Fx m=[68,65,73,72]:=by unfold Fx;(repeat' split);all_goals first|rfl|(exfalso;omega)
   exact QV _ _ _ _ _ _ _ j k l (by unfold Ag;rw[c];rfl) (by unfold Ag;rw[c];rfl) (by unfold Ag;rw[c];rfl) (by unfold Ag;rw[c];rfl) (by unfold Ag;rw[c];rfl) (by simp;omega) (by simp;omega) (by simp;omega) (by simp[Df];omega) (by unfold Cv;rw[if_neg AB]) (by unfold DI;rw[if_neg AB,if_neg AB])
  ·have c:Fx m=[68,65,66,72]:=by unfold Fx;(repeat' split);all_goals first|rfl|(exfalso;omega)
   exact Px _ _ _ _ _ _ _ j k l (by unfold Ag;rw[c];rfl) (by unfold Ag;rw[c];rfl) (by unfold Ag;rw[c];rfl) (by unfold Ag;rw[c];rfl) (by unfold Ag;rw[c];rfl) (by simp;omega) (by simp;omega) (by simp;omega) (by simp[Df];omega) (by unfold Cv;rw[if_neg AB]) (by unfold DI;rw[if_neg AB,if_neg AB])
  ·have c:Fx m=[73]:=by unfold Fx;(repeat' split);all_goals first|rfl|(exfalso;omega)
   exact Pd _ _ _ _ _ _ _ j k l (by unfold Ag;rw[c];rfl) (by unfold Ag;rw[c];rfl) (by unfold Ag;rw[c];rfl) (by unfold Ag;rw[c];rfl) (by unfold Ag;rw[c];rfl) (by simp;omega) (by simp;omega) (by simp;omega) (by simp[Df];omega) (by unfold Cv;rw[if_pos AB]) (by unfold DI;rw[if_neg AB,if_pos AB])
  ·subst e;exact Po _ _ _ _ _ _ _ j k l (by rfl) (by rfl) (by rfl) (by rfl) (by rfl) (by rfl) (by rfl) (by rfl) (by rfl) (by rfl) (by rfl)
  ·have c:Fx m=[68,65,66]:=by unfold Fx;(repeat' split);all_goals first|rfl|(exfalso;omega)
   exact Qu _ _ _ _ _ _ _ j k l (by unfold Ag;rw[c];rfl) (by unfold Ag;rw[c];rfl) (by unfold Ag;rw[c];rfl) (by unfold Ag;rw[c];rfl) (by unfold Ag;rw[c];rfl) (by simp;omega) (by simp;omega) (by simp;omega) (by simp[Df];omega) (by unfold Cv;rw[if_neg AB]) (by unfold DI;rw[if_neg AB,if_neg AB])
 ·exact SH _ _ _ _ _ _ _ o
def Ia(F:Nat->Nat->Int)(i:Nat):Value:=Vi (F (i/6) (i%6))
theorem Cm(F:Nat->Nat->Int)(k j:Nat)(a:j<6):Ia F (k*6+j)=Vi (F k j):=by
 unfold Ia;rw[show(k*6+j)/6=k by omega,show(k*6+j)%6=j by omega]
def JW(F:Nat->Nat->Int)(i:Nat):Bool:=Ar (F i 0) (F i 1) (F i 2) (F i 3) (F i 4) (F i 5)
def Dr(len:Nat)(F:Nat->Nat->Int)(i:Nat):Bool:=JW F i&&!(Df (F i 0)&&decide ((len:Int)<=F i 4))
def Dw(len:Nat)(F:Nat->Nat->Int):Bool:=decide (1<=len)&&decide (len<=2000)&&(List.range len).all (Dr len F)&&(F (len-1) 0==34)
theorem JE{k:Nat}(a:k<u)(h:Dr u F k=false):Dw u F=false:=by
 have:(List.range u).all (Dr u F)=false:=by
  rw[List.all_eq_false];exact⟨k,List.mem_range.2 a,by simp[h]⟩
 simp[Dw,this]
theorem Mj(a:1<=u)(b:u<=2000)(h:∀i,i<u->Dr u F i=true):Dw u F=(F (u-1) 0==34):=by
 have:(List.range u).all (Dr u F)=true:=by
  rw[List.all_eq_true];exact fun i c=>h i (List.mem_range.1 c)
 simp[Dw,this,a,b]
theorem JI{k:Nat}(h:∀i,i<k->Dr u F i=true)(g:Dr u F k=true):∀i,i<k+1->Dr u F i=true:=by
 intro i a;by_cases e:i=k
 ·rw[e];exact g
 ·exact h i AB
theorem R8(h:u<1∨2000<u):Dw u F=false:=by
 rcases h with h|h<;>simp[Dw]<;>intros<;>omega
theorem QG(c:Option Addr)(a b:Nat)(F:Nat->Nat->Int)(w:World)(h:a<1∨2000<a)(j:a<=1048576):
 Calls Tryz.prog 9 #[.slice c a b] w fun e d=>e=.returned (.bool (Dw a F))/\Below w.heap.size w d:=by
 rw[R8 h];rcases h with h|h
 ·obtain rfl:a=0:=AB
  go_enter Tryz.func9,Tryz.ntmps9;go_wp2;go_ret;exact⟨rfl,Below.refl _ _⟩
 ·go_enter Tryz.func9,Tryz.ntmps9
  go_wp2;go_ret;exact⟨rfl,Below.refl _ _⟩
theorem Qt(b c a s:Nat)(F:Nat->Nat->Int)(w:World)(C:1<=a)(D:a<=2000)(o:At w b c (a*6) (Ia F)):
 Calls Tryz.prog 9 #[.slice (some ⟨b,c,none⟩) a s] w fun e A=>e=.returned (.bool (Dw a F))/\Below w.heap.size w A:=by
 have l:=o.lt;have j:=hxy o;go_enter Tryz.func9,Tryz.ntmps9;go_wp2;go_loopw [4](fun i wr=>∃k:Nat,k<=a/\i=Vi k/\Bw w wr/\∀i,i<k->Dr a F i=true)(fun i _=>a-(intOf i).toNat)
 case atStart=>exact⟨0,Nat.zero_le _,rfl,Below.refl _ _,fun i L=>by omega⟩
 case round=>
  obtain⟨k,M,rfl,d,n⟩:=hrel;have r:=hxy n;by_cases q:k<a
  ·have y:=(d.cell (p:=Va b (c+k*6)) l).trans ((j.cell (i:=k*6+0) AB).trans (congrArg some (Cm F k 0 AB)))
   have E:=(d.cell (p:=Va b (c+k*6+1)) l).trans ((j.cell (i:=k*6+1) AB).trans (congrArg some (Cm F k 1 AB)));have I:=(d.cell (p:=Va b (c+k*6+2)) l).trans ((j.cell (i:=k*6+2) AB).trans (congrArg some (Cm F k 2 AB)));have J:=(d.cell (p:=Va b (c+k*6+3)) l).trans ((j.cell (i:=k*6+3) AB).trans (congrArg some (Cm F k 3 AB)));have B:=(d.cell (p:=Va b (c+k*6+4)) l).trans ((j.cell (i:=k*6+4) AB).trans (congrArg some (Cm F k 4 AB)));have K:=(d.cell (p:=Va b (c+k*6+5)) l).trans ((j.cell (i:=k*6+5) AB).trans (congrArg some (Cm F k 5 AB)));go_wp2_with fail;refine(FH _ _ _ _ _ _ _).mono ?_;rintro e N⟨rfl,u⟩;have h:=d.trans (u.mono d.size);have y:=(h.cell (p:=Va b (c+k*6)) l).trans ((j.cell (i:=k*6+0) AB).trans (congrArg some (Cm F k 0 AB)));have B:=(h.cell (p:=Va b (c+k*6+4)) l).trans ((j.cell (i:=k*6+4) AB).trans (congrArg some (Cm F k 4 AB)));go_wp2_with(go_at_call 32;refine(DK _ _).mono ?_;rintro e A⟨rfl,rfl⟩)
   ·go_ret
    have m:Ar (F k 0) (F k 1) (F k 2) (F k 3) (F k 4) (F k 5)=true:=by assumption
    have x:Df (F k 0)=true:=by assumption
    have z:(a:Int)<=F k 4:=by assumption
    exact⟨AZ (JE q (by simp[Dr,x,z])).symm,h⟩
   ·have m:Ar (F k 0) (F k 1) (F k 2) (F k 3) (F k 4) (F k 5)=true:=by assumption
    have z:F k 4<(a:Int):=by assumption
    go_roundw
    case rel=>exact⟨k+1,AB,by go_num,h,JI r (by simp[Dr,JW,m];omega)⟩
    case measure=>simp[intOf];omega
   ·have m:Ar (F k 0) (F k 1) (F k 2) (F k 3) (F k 4) (F k 5)=true:=by assumption
    have x:¬Df (F k 0)=true:=by assumption
    go_roundw
    case rel=>exact⟨k+1,AB,by go_num,h,JI r (by simp[Dr,JW,m,x])⟩
    case measure=>simp[intOf];omega
   ·go_ret
    have m:¬Ar (F k 0) (F k 1) (F k 2) (F k 3) (F k 4) (F k 5)=true:=by assumption
    exact⟨AZ (JE q (by simp[Dr,JW,m])).symm,h⟩
  ·obtain rfl:k=a:=AB
   have y:=(d.cell (p:=⟨b,c+(k-1)*6,none⟩) l).trans ((j.cell (i:=(k-1)*6+0) AB).trans (congrArg some (Cm F (k-1) 0 AB)));go_wp2;go_ret;exact⟨AZ (Mj C D r).symm,d⟩
theorem QM(c:Option Addr)(a b:Nat)(F:Nat->Nat->Int)(w:World)(h:a<1∨2000<a)(j:a<=1048576):
 Calls Tryz.prog 33 #[.slice c a b] w fun e d=>e=.returned (.bool (Dw a F))/\Below w.heap.size w d:=by
 rw[R8 h];rcases h with h|h
 ·obtain rfl:a=0:=AB
  go_enter Tryz.func33,Tryz.ntmps33;go_wp2;go_ret;exact⟨rfl,Below.refl _ _⟩
 ·go_enter Tryz.func33,Tryz.ntmps33
  go_wp2;go_ret;exact⟨rfl,Below.refl _ _⟩
theorem RZ(b d a u:Nat)(F:Nat->Nat->Int)(w:World)(C:1<=a)(D:a<=2000)(q:At w b d (a*6) (Ia F)):
 Calls Tryz.prog 33 #[.slice (some ⟨b,d,none⟩) a u] w fun e z=>e=.returned (.bool (Dw a F))/\Below w.heap.size w z:=by
 have l:=q.lt;have j:=hxy q;go_enter Tryz.func33,Tryz.ntmps33;go_wp2;go_loopw [16](fun i wr=>∃k:Nat,k<=a/\i=Vi k/\Bw w wr/\∀i,i<k->Dr a F i=true)(fun i _=>a-(intOf i).toNat)
 case atStart=>exact⟨0,Nat.zero_le _,rfl,Below.refl _ _,fun i O=>by omega⟩
 case round=>
  obtain⟨k,Q,rfl,c,o⟩:=hrel;have s:=hxy o;by_cases r:k<a
  ·have B:=(c.cell (p:=Va b (d+k*6)) l).trans ((j.cell (i:=k*6+0) AB).trans (congrArg some (Cm F k 0 AB)))
   have J:=(c.cell (p:=Va b (d+k*6+1)) l).trans ((j.cell (i:=k*6+1) AB).trans (congrArg some (Cm F k 1 AB)));have K:=(c.cell (p:=Va b (d+k*6+2)) l).trans ((j.cell (i:=k*6+2) AB).trans (congrArg some (Cm F k 2 AB)));have L:=(c.cell (p:=Va b (d+k*6+3)) l).trans ((j.cell (i:=k*6+3) AB).trans (congrArg some (Cm F k 3 AB)));have M:=(c.cell (p:=Va b (d+k*6+4)) l).trans ((j.cell (i:=k*6+4) AB).trans (congrArg some (Cm F k 4 AB)));have N:=(c.cell (p:=Va b (d+k*6+5)) l).trans ((j.cell (i:=k*6+5) AB).trans (congrArg some (Cm F k 5 AB)));go_wp2_with fail;refine(LM _ _ _ _ _ _ _).mono ?_;rintro e A⟨rfl,m⟩;have h:Bw w A:=(c.alloc c.size _).trans (m.mono (by have:=c.size;simp;omega));obtain⟨E,_⟩:=Rj m;have I:wr.heap.size<A.heap.size:=by have:=m.size;simp at this;omega
   go_wp2_with(go_at_call 63;refine(U1 _ _).mono ?_;rintro e z⟨rfl,rfl⟩)
   ·go_ret
    have n:Ar (F k 0) (F k 1) (F k 2) (F k 3) (F k 4) (F k 5)=true:=by assumption
    have x:Df (F k 0)=true:=by assumption
    have y:(a:Int)<=F k 4:=by assumption
    exact⟨AZ (JE r (by simp[Dr,x,y])).symm,h⟩
   ·have n:Ar (F k 0) (F k 1) (F k 2) (F k 3) (F k 4) (F k 5)=true:=by assumption
    have y:F k 4<(a:Int):=by assumption
    go_roundw
    case rel=>exact⟨k+1,AB,by go_num,h,JI s (by simp[Dr,JW,n];omega)⟩
    case measure=>simp[intOf];omega
   ·have n:Ar (F k 0) (F k 1) (F k 2) (F k 3) (F k 4) (F k 5)=true:=by assumption
    have x:¬Df (F k 0)=true:=by assumption
    go_roundw
    case rel=>exact⟨k+1,AB,by go_num,h,JI s (by simp[Dr,JW,n,x])⟩
    case measure=>simp[intOf];omega
   ·go_ret
    have n:¬Ar (F k 0) (F k 1) (F k 2) (F k 3) (F k 4) (F k 5)=true:=by assumption
    exact⟨AZ (JE r (by simp[Dr,JW,n])).symm,h⟩
  ·obtain rfl:k=a:=AB
   have B:=(c.cell (p:=⟨b,d+(k-1)*6,none⟩) l).trans ((j.cell (i:=(k-1)*6+0) AB).trans (congrArg some (Cm F (k-1) 0 AB)));go_wp2;go_ret;exact⟨AZ (Mj C D s).symm,c⟩
theorem Qa(b c a d:Nat)(F:Nat->Nat->Int)(w:World)(k:a<=1048576)(j:At w b c (a*6) (Ia F)):
 Calls Tryz.prog 9 #[.slice (some ⟨b,c,none⟩) a d] w fun e l=>e=.returned (.bool (Dw a F))/\Below w.heap.size w l:=by
 by_cases h:a<1∨2000<a
 ·exact QG _ _ _ F w h k
 ·exact Qt b c a d F w AB AB j
theorem Qd(b c a d:Nat)(F:Nat->Nat->Int)(w:World)(k:a<=1048576)(j:At w b c (a*6) (Ia F)):
 Calls Tryz.prog 33 #[.slice (some ⟨b,c,none⟩) a d] w fun e l=>e=.returned (.bool (Dw a F))/\Below w.heap.size w l:=by
 by_cases h:a<1∨2000<a
 ·exact QM _ _ _ F w h k
 ·exact RZ b c a d F w AB AB j
end Go.Proofs.YtkckomianknjdaaGreat
