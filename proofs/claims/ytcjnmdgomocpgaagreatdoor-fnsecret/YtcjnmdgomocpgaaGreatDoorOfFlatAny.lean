import Derived.Test.YtcjnmdgomocpgaaGreatDoorOfCoreReg
import Derived.BigQuiet
set_option maxHeartbeats 1000000
namespace Go.Proofs.YtcjnmdgomocpgaaGreatDoor
open Go.RowKit
variable {X:Nat}{F:Nat->Nat->Int}
theorem DT(a:Int)(w:World):
 Ks 79 #[Vi a] w fun e b=>e=.returned (.string (Ab a))/\b=w:=by
 go_enter Tryz.func79,Tryz.ntmps79;go_wp2;all_goals(go_ret;refine⟨qM ?_,rfl⟩;simp_all[Ab,Gj])
theorem Kj(a:Int)(w:World):
 Ks 125 #[Vi a] w fun e b=>e=.returned (Vi (FE a))/\b=w:=by
 go_enter Tryz.func125,Tryz.ntmps125;go_wp2;all_goals(go_ret;refine⟨Ae ?_,rfl⟩;simp_all[FE])
theorem WQ(a:Int)(w:World):
 Ks 165 #[Vi a] w fun e b=>e=.returned (.tuple #[Vi (DF a),Vi (DL a)])/\b=w:=by
 go_enter Tryz.func165,Tryz.ntmps165;go_wp2;all_goals(go_ret2;refine⟨Yo ?_ ?_,rfl⟩<;>simp_all[DF,DL]<;>omega)
theorem DY(a:Int)(w:World):
 Ks 40 #[Vi a] w fun e b=>e=.returned (.bool (EH a))/\b=w:=by
 go_enter Tryz.func40,Tryz.ntmps40;go_wp2;all_goals(go_ret;refine⟨AY ?_,rfl⟩;simp[EH]<;>omega)
theorem Eu(x b a:Int)(w:World):
 Ks 44 #[Vi x,Vi b,Vi a] w fun e c=>e=.returned (.bool (EM x b a))/\c=w:=by
 go_enter Tryz.func44,Tryz.ntmps44;go_wp2;all_goals(go_ret;refine⟨AY ?_,rfl⟩;simp[EM]<;>omega)
theorem ZM(u:Bool)(x b a:Int)(w:World):
 Ks 166 #[.bool u,Vi x,Vi b,Vi a] w fun e c=>e=.returned (.bool (Dc u x b a))/\c=w:=by
 go_enter Tryz.func166,Tryz.ntmps166;go_wp2;all_goals(go_ret;refine⟨AY ?_,rfl⟩;cases u<;>simp_all[Dc,EM]<;>omega)
theorem pU(s:ByteArray)(b:UInt8)(w:World)(m:s.size<=maxLen):
 Ks 80 #[.string s,.int .u8 b.toNat] w fun e n=>e=.returned (.bool (hasB s b))/\n=w:=by
 unfold maxLen at m;go_enter Tryz.func80,Tryz.ntmps80;go_wp2;go_loop [5](fun i=>∃k:Nat,k<=s.size/\i=Vi k/\(s.data.toList.take k).contains b=false)(fun i=>s.size-(intOf i).toNat)
 case atStart=>exact⟨0,Nat.zero_le _,rfl,rfl⟩
 case round=>
  obtain⟨k,l,rfl,c⟩:=hrel;have d:=hxy c;by_cases a:k<s.size
  ·have j:=hxy (Xy s k a)
   go_wp2
   ·go_ret
    refine⟨AY ?_,rfl⟩;have h:((s[k].toNat:Int)==(b.toNat:Int))=true:=by assumption
    exact(ZT s b k a h).symm
   ·go_round
    case rel=>exact⟨k+1,AB,by go_num,tu s b k d j (by assumption)⟩
    case measure=>simp[intOf];omega
  ·go_wp2
   go_ret;exact⟨AY (mq s b k l AB d).symm,rfl⟩
def BV(s:ByteArray)(n:Int):Bool:=hasB s (UInt8.ofNat n.toNat)
theorem Dz(s:ByteArray)(n:Int)(w:World)(a:s.size<=maxLen)(c:0<=n)(d:n<=255):
 Ks 80 #[.string s,.int .u8 n] w fun e b=>e=.returned (.bool (BV s n))/\b=w:=by
 have:=pU s (UInt8.ofNat n.toNat) w a;rw[show((UInt8.ofNat n.toNat).toNat:Int)=n from by simp;omega]at this;exact this
theorem Cu(a:Int):(Ab a).size<=maxLen:=by
 unfold Ab Gj maxLen;repeat' split
 all_goals decide
def Bu(op d a b imm h:Int):Bool:=
 EM op 1 34&&(BV (Ab op) 68||d==0)&&(BV (Ab op) 65||a==0)&&(BV (Ab op) 66||b==0)&&(BV (Ab op) 73||imm==0)&&(BV (Ab op) 72||h==0)&&
  EM d 0 7&&EM a 0 7&&EM b 0 7&&EM h 0 7&&EM imm (DF op) (DL op)
def Ap(op k:Int):Bool:=bits BinOp.and IntKind.i64 (FE op) k !=0
def BF(op d a b imm h:Int):Bool:=
 EM op 1 34&&Dc (Ap op 1) d 0 7&&Dc (Ap op 2) a 0 7&&Dc (Ap op 4) b 0 7&&Dc (Ap op 8) imm (DF op) (DL op)&&Dc (Ap op 16) h 0 7
theorem NM(c d a b j h:Int)(w:World):
 Ks 148 #[.agg #[Vi c,Vi d,Vi a,Vi b,Vi j,Vi h]] w fun e k=>e=.returned (.bool (BF c d a b j h))/\Below w.heap.size w k:=by
 by_cases n:1<=c/\c<=34
 ·obtain⟨m,l⟩:=n
  go_enter Tryz.func148,Tryz.ntmps148;go_wp2_with(first|(go_at_call 125;refine(Kj _ _).mono ?_;rintro e k⟨rfl,rfl⟩)|(go_at_call 165;refine(WQ _ _).mono ?_;rintro e k⟨rfl,rfl⟩)|(go_at_call 166;refine(ZM _ _ _ _ _).mono ?_;rintro e k⟨rfl,rfl⟩));all_goals(go_ret;refine⟨AY ?_,Ai⟩;simp_all[BF,Ap,EM])
 ·by_cases m:1<=c
  ·have l:34<c:=AB
   go_enter Tryz.func148,Tryz.ntmps148;go_wp2;go_ret;refine⟨AY ?_,Ai⟩;have:EM c 1 34=false:=by simp[EM];omega
   simp[BF,this]
  ·have l:c<1:=AB
   go_enter Tryz.func148,Tryz.ntmps148;go_wp2;go_ret;refine⟨AY ?_,Ai⟩;have:EM c 1 34=false:=by simp[EM];omega
   simp[BF,this]
theorem Ve(c d a b j h:Int)(w:World)(l:1<=c)(m:c<=34)(n:EM c 1 34=true)(q:BV (Ab c) 68=true)(o:BV (Ab c) 65=true)(p:BV (Ab c) 66=false)(s:BV (Ab c) 73=false)(r:BV (Ab c) 72=false)
 (z:(c==11)=false)(A:(c==12)=false)(B:(c==13)=false)(x:EH c=false)(y:DF c=(-1000000))(u:DL c=1000000):
 Ks 39 #[.agg #[Vi c,Vi d,Vi a,Vi b,Vi j,Vi h]] w fun e k=>e=.returned (.bool (Bu c d a b j h))/\Below w.heap.size w k:=by
 go_enter Tryz.func39,Tryz.ntmps39;go_wp2_with(first|(go_at_call 79;refine(DT _ _).mono ?_;rintro e k⟨rfl,rfl⟩)|(go_at_call 80;refine(Dz _ _ _ (Cu _) Ad Ad).mono ?_;rintro e k⟨rfl,rfl⟩)|(go_at_call 40;refine(DY _ _).mono ?_;rintro e k⟨rfl,rfl⟩)|(go_at_call 44;refine(Eu _ _ _ _).mono ?_;rintro e k⟨rfl,rfl⟩));all_goals(go_ret;refine⟨AY ?_,Ai⟩;simp_all[Bu])
theorem WU(c d a b j h:Int)(w:World)(l:1<=c)(m:c<=34)(n:EM c 1 34=true)(q:BV (Ab c) 68=true)(o:BV (Ab c) 65=false)(p:BV (Ab c) 66=false)(s:BV (Ab c) 73=true)(r:BV (Ab c) 72=false)
 (z:(c==11)=false)(A:(c==12)=false)(B:(c==13)=false)(x:EH c=false)(y:DF c=(-1000000))(u:DL c=1000000):
 Ks 39 #[.agg #[Vi c,Vi d,Vi a,Vi b,Vi j,Vi h]] w fun e k=>e=.returned (.bool (Bu c d a b j h))/\Below w.heap.size w k:=by
 go_enter Tryz.func39,Tryz.ntmps39;go_wp2_with(first|(go_at_call 79;refine(DT _ _).mono ?_;rintro e k⟨rfl,rfl⟩)|(go_at_call 80;refine(Dz _ _ _ (Cu _) Ad Ad).mono ?_;rintro e k⟨rfl,rfl⟩)|(go_at_call 40;refine(DY _ _).mono ?_;rintro e k⟨rfl,rfl⟩)|(go_at_call 44;refine(Eu _ _ _ _).mono ?_;rintro e k⟨rfl,rfl⟩));all_goals(go_ret;refine⟨AY ?_,Ai⟩;simp_all[Bu])
theorem TP(c d a b j h:Int)(w:World)(l:1<=c)(m:c<=34)(n:EM c 1 34=true)(q:BV (Ab c) 68=true)(o:BV (Ab c) 65=true)(p:BV (Ab c) 66=false)(s:BV (Ab c) 73=true)(r:BV (Ab c) 72=false)
 (z:(c==11)=false)(A:(c==12)=false)(B:(c==13)=false)(x:EH c=false)(y:DF c=(-1000000))(u:DL c=1000000):
 Ks 39 #[.agg #[Vi c,Vi d,Vi a,Vi b,Vi j,Vi h]] w fun e k=>e=.returned (.bool (Bu c d a b j h))/\Below w.heap.size w k:=by
 go_enter Tryz.func39,Tryz.ntmps39;go_wp2_with(first|(go_at_call 79;refine(DT _ _).mono ?_;rintro e k⟨rfl,rfl⟩)|(go_at_call 80;refine(Dz _ _ _ (Cu _) Ad Ad).mono ?_;rintro e k⟨rfl,rfl⟩)|(go_at_call 40;refine(DY _ _).mono ?_;rintro e k⟨rfl,rfl⟩)|(go_at_call 44;refine(Eu _ _ _ _).mono ?_;rintro e k⟨rfl,rfl⟩));all_goals(go_ret;refine⟨AY ?_,Ai⟩;simp_all[Bu])
theorem Pm(c d a b j h:Int)(w:World)(l:1<=c)(m:c<=34)(n:EM c 1 34=true)(q:BV (Ab c) 68=true)(o:BV (Ab c) 65=true)(p:BV (Ab c) 66=false)(s:BV (Ab c) 73=true)(r:BV (Ab c) 72=false)
 (z:(c==11)=true)(A:(c==12)=false)(B:(c==13)=false)(x:EH c=false)(y:DF c=0)(u:DL c=1000000):
 Ks 39 #[.agg #[Vi c,Vi d,Vi a,Vi b,Vi j,Vi h]] w fun e k=>e=.returned (.bool (Bu c d a b j h))/\Below w.heap.size w k:=by
 go_enter Tryz.func39,Tryz.ntmps39;go_wp2_with(first|(go_at_call 79;refine(DT _ _).mono ?_;rintro e k⟨rfl,rfl⟩)|(go_at_call 80;refine(Dz _ _ _ (Cu _) Ad Ad).mono ?_;rintro e k⟨rfl,rfl⟩)|(go_at_call 40;refine(DY _ _).mono ?_;rintro e k⟨rfl,rfl⟩)|(go_at_call 44;refine(Eu _ _ _ _).mono ?_;rintro e k⟨rfl,rfl⟩));all_goals(go_ret;refine⟨AY ?_,Ai⟩;simp_all[Bu])
theorem QG(c d a b j h:Int)(w:World)(l:1<=c)(m:c<=34)(n:EM c 1 34=true)(q:BV (Ab c) 68=true)(o:BV (Ab c) 65=true)(p:BV (Ab c) 66=false)(s:BV (Ab c) 73=true)(r:BV (Ab c) 72=false)
 (z:(c==11)=false)(A:(c==12)=true)(_kz:(c==13)=false)(x:EH c=false)(y:DF c=0)(u:DL c=63):
 Ks 39 #[.agg #[Vi c,Vi d,Vi a,Vi b,Vi j,Vi h]] w fun e k=>e=.returned (.bool (Bu c d a b j h))/\Below w.heap.size w k:=by
 go_enter Tryz.func39,Tryz.ntmps39;go_wp2_with(first|(go_at_call 79;refine(DT _ _).mono ?_;rintro e k⟨rfl,rfl⟩)|(go_at_call 80;refine(Dz _ _ _ (Cu _) Ad Ad).mono ?_;rintro e k⟨rfl,rfl⟩)|(go_at_call 40;refine(DY _ _).mono ?_;rintro e k⟨rfl,rfl⟩)|(go_at_call 44;refine(Eu _ _ _ _).mono ?_;rintro e k⟨rfl,rfl⟩));all_goals(go_ret;refine⟨AY ?_,Ai⟩;simp_all[Bu])
theorem QC(c d a b j h:Int)(w:World)(l:1<=c)(m:c<=34)(n:EM c 1 34=true)(q:BV (Ab c) 68=true)(o:BV (Ab c) 65=true)(p:BV (Ab c) 66=false)(s:BV (Ab c) 73=true)(r:BV (Ab c) 72=false)
 (z:(c==11)=false)(A:(c==12)=false)(B:(c==13)=true)(x:EH c=false)(y:DF c=0)(u:DL c=63):
 Ks 39 #[.agg #[Vi c,Vi d,Vi a,Vi b,Vi j,Vi h]] w fun e k=>e=.returned (.bool (Bu c d a b j h))/\Below w.heap.size w k:=by
 go_enter Tryz.func39,Tryz.ntmps39;go_wp2_with(first|(go_at_call 79;refine(DT _ _).mono ?_;rintro e k⟨rfl,rfl⟩)|(go_at_call 80;refine(Dz _ _ _ (Cu _) Ad Ad).mono ?_;rintro e k⟨rfl,rfl⟩)|(go_at_call 40;refine(DY _ _).mono ?_;rintro e k⟨rfl,rfl⟩)|(go_at_call 44;refine(Eu _ _ _ _).mono ?_;rintro e k⟨rfl,rfl⟩));all_goals(go_ret;refine⟨AY ?_,Ai⟩;simp_all[Bu])
theorem VH(c d a b j h:Int)(w:World)(l:1<=c)(m:c<=34)(n:EM c 1 34=true)(q:BV (Ab c) 68=false)(o:BV (Ab c) 65=true)(p:BV (Ab c) 66=true)(s:BV (Ab c) 73=false)(r:BV (Ab c) 72=false)
 (z:(c==11)=false)(A:(c==12)=false)(B:(c==13)=false)(x:EH c=false)(y:DF c=(-1000000))(u:DL c=1000000):
 Ks 39 #[.agg #[Vi c,Vi d,Vi a,Vi b,Vi j,Vi h]] w fun e k=>e=.returned (.bool (Bu c d a b j h))/\Below w.heap.size w k:=by
 go_enter Tryz.func39,Tryz.ntmps39;go_wp2_with(first|(go_at_call 79;refine(DT _ _).mono ?_;rintro e k⟨rfl,rfl⟩)|(go_at_call 80;refine(Dz _ _ _ (Cu _) Ad Ad).mono ?_;rintro e k⟨rfl,rfl⟩)|(go_at_call 40;refine(DY _ _).mono ?_;rintro e k⟨rfl,rfl⟩)|(go_at_call 44;refine(Eu _ _ _ _).mono ?_;rintro e k⟨rfl,rfl⟩));all_goals(go_ret;refine⟨AY ?_,Ai⟩;simp_all[Bu])
theorem WG(c d a b j h:Int)(w:World)(l:1<=c)(m:c<=34)(n:EM c 1 34=true)(q:BV (Ab c) 68=false)(o:BV (Ab c) 65=true)(p:BV (Ab c) 66=false)(s:BV (Ab c) 73=true)(r:BV (Ab c) 72=false)
 (z:(c==11)=false)(A:(c==12)=false)(B:(c==13)=false)(x:EH c=false)(y:DF c=(-1000000))(u:DL c=1000000):
 Ks 39 #[.agg #[Vi c,Vi d,Vi a,Vi b,Vi j,Vi h]] w fun e k=>e=.returned (.bool (Bu c d a b j h))/\Below w.heap.size w k:=by
 go_enter Tryz.func39,Tryz.ntmps39;go_wp2_with(first|(go_at_call 79;refine(DT _ _).mono ?_;rintro e k⟨rfl,rfl⟩)|(go_at_call 80;refine(Dz _ _ _ (Cu _) Ad Ad).mono ?_;rintro e k⟨rfl,rfl⟩)|(go_at_call 40;refine(DY _ _).mono ?_;rintro e k⟨rfl,rfl⟩)|(go_at_call 44;refine(Eu _ _ _ _).mono ?_;rintro e k⟨rfl,rfl⟩));all_goals(go_ret;refine⟨AY ?_,Ai⟩;simp_all[Bu])
theorem RD(c d a b j h:Int)(w:World)(l:1<=c)(m:c<=34)(n:EM c 1 34=true)(q:BV (Ab c) 68=true)(o:BV (Ab c) 65=true)(p:BV (Ab c) 66=false)(s:BV (Ab c) 73=true)(r:BV (Ab c) 72=true)
 (z:(c==11)=false)(A:(c==12)=false)(B:(c==13)=false)(x:EH c=false)(y:DF c=(-1000000))(u:DL c=1000000):
 Ks 39 #[.agg #[Vi c,Vi d,Vi a,Vi b,Vi j,Vi h]] w fun e k=>e=.returned (.bool (Bu c d a b j h))/\Below w.heap.size w k:=by
 go_enter Tryz.func39,Tryz.ntmps39;go_wp2_with(first|(go_at_call 79;refine(DT _ _).mono ?_;rintro e k⟨rfl,rfl⟩)|(go_at_call 80;refine(Dz _ _ _ (Cu _) Ad Ad).mono ?_;rintro e k⟨rfl,rfl⟩)|(go_at_call 40;refine(DY _ _).mono ?_;rintro e k⟨rfl,rfl⟩)|(go_at_call 44;refine(Eu _ _ _ _).mono ?_;rintro e k⟨rfl,rfl⟩));all_goals(go_ret;refine⟨AY ?_,Ai⟩;simp_all[Bu])
theorem Sv(c d a b j h:Int)(w:World)(l:1<=c)(m:c<=34)(n:EM c 1 34=true)(q:BV (Ab c) 68=true)(o:BV (Ab c) 65=true)(p:BV (Ab c) 66=true)(s:BV (Ab c) 73=false)(r:BV (Ab c) 72=true)
 (z:(c==11)=false)(A:(c==12)=false)(B:(c==13)=false)(x:EH c=false)(y:DF c=(-1000000))(u:DL c=1000000):
 Ks 39 #[.agg #[Vi c,Vi d,Vi a,Vi b,Vi j,Vi h]] w fun e k=>e=.returned (.bool (Bu c d a b j h))/\Below w.heap.size w k:=by
 go_enter Tryz.func39,Tryz.ntmps39;go_wp2_with(first|(go_at_call 79;refine(DT _ _).mono ?_;rintro e k⟨rfl,rfl⟩)|(go_at_call 80;refine(Dz _ _ _ (Cu _) Ad Ad).mono ?_;rintro e k⟨rfl,rfl⟩)|(go_at_call 40;refine(DY _ _).mono ?_;rintro e k⟨rfl,rfl⟩)|(go_at_call 44;refine(Eu _ _ _ _).mono ?_;rintro e k⟨rfl,rfl⟩));all_goals(go_ret;refine⟨AY ?_,Ai⟩;simp_all[Bu])
theorem Ry(c d a b j h:Int)(w:World)(l:1<=c)(m:c<=34)(n:EM c 1 34=true)(q:BV (Ab c) 68=false)(o:BV (Ab c) 65=false)(p:BV (Ab c) 66=false)(s:BV (Ab c) 73=true)(r:BV (Ab c) 72=false)
 (z:(c==11)=false)(A:(c==12)=false)(B:(c==13)=false)(x:EH c=true)(y:DF c=0)(u:DL c=1999):
 Ks 39 #[.agg #[Vi c,Vi d,Vi a,Vi b,Vi j,Vi h]] w fun e k=>e=.returned (.bool (Bu c d a b j h))/\Below w.heap.size w k:=by
 go_enter Tryz.func39,Tryz.ntmps39;go_wp2_with(first|(go_at_call 79;refine(DT _ _).mono ?_;rintro e k⟨rfl,rfl⟩)|(go_at_call 80;refine(Dz _ _ _ (Cu _) Ad Ad).mono ?_;rintro e k⟨rfl,rfl⟩)|(go_at_call 40;refine(DY _ _).mono ?_;rintro e k⟨rfl,rfl⟩)|(go_at_call 44;refine(Eu _ _ _ _).mono ?_;rintro e k⟨rfl,rfl⟩));all_goals(go_ret;refine⟨AY ?_,Ai⟩;simp_all[Bu])
theorem RQ(c d a b j h:Int)(w:World)(l:1<=c)(m:c<=34)(n:EM c 1 34=true)(q:BV (Ab c) 68=false)(o:BV (Ab c) 65=false)(p:BV (Ab c) 66=false)(s:BV (Ab c) 73=false)(r:BV (Ab c) 72=false)
 (z:(c==11)=false)(A:(c==12)=false)(B:(c==13)=false)(x:EH c=false)(y:DF c=(-1000000))(u:DL c=1000000):
 Ks 39 #[.agg #[Vi c,Vi d,Vi a,Vi b,Vi j,Vi h]] w fun e k=>e=.returned (.bool (Bu c d a b j h))/\Below w.heap.size w k:=by
 go_enter Tryz.func39,Tryz.ntmps39;go_wp2_with(first|(go_at_call 79;refine(DT _ _).mono ?_;rintro e k⟨rfl,rfl⟩)|(go_at_call 80;refine(Dz _ _ _ (Cu _) Ad Ad).mono ?_;rintro e k⟨rfl,rfl⟩)|(go_at_call 40;refine(DY _ _).mono ?_;rintro e k⟨rfl,rfl⟩)|(go_at_call 44;refine(Eu _ _ _ _).mono ?_;rintro e k⟨rfl,rfl⟩));all_goals(go_ret;refine⟨AY ?_,Ai⟩;simp_all[Bu])
theorem TK(c d a b j h:Int)(w:World)(l:1<=c)(m:c<=34)(n:EM c 1 34=true)(q:BV (Ab c) 68=true)(o:BV (Ab c) 65=true)(p:BV (Ab c) 66=true)(s:BV (Ab c) 73=false)(r:BV (Ab c) 72=false)
 (z:(c==11)=false)(A:(c==12)=false)(B:(c==13)=false)(x:EH c=false)(y:DF c=(-1000000))(u:DL c=1000000):
 Ks 39 #[.agg #[Vi c,Vi d,Vi a,Vi b,Vi j,Vi h]] w fun e k=>e=.returned (.bool (Bu c d a b j h))/\Below w.heap.size w k:=by
 go_enter Tryz.func39,Tryz.ntmps39;go_wp2_with(first|(go_at_call 79;refine(DT _ _).mono ?_;rintro e k⟨rfl,rfl⟩)|(go_at_call 80;refine(Dz _ _ _ (Cu _) Ad Ad).mono ?_;rintro e k⟨rfl,rfl⟩)|(go_at_call 40;refine(DY _ _).mono ?_;rintro e k⟨rfl,rfl⟩)|(go_at_call 44;refine(Eu _ _ _ _).mono ?_;rintro e k⟨rfl,rfl⟩));all_goals(go_ret;refine⟨AY ?_,Ai⟩;simp_all[Bu])
theorem xC(a:Int):BV (Ab a) 68=Ap a 1:=by unfold BV Ab Ap Gj FE;(repeat' split);all_goals first|rfl|(exfalso;omega)
theorem vY(a:Int):BV (Ab a) 65=Ap a 2:=by unfold BV Ab Ap Gj FE;(repeat' split);all_goals first|rfl|(exfalso;omega)
theorem vP(a:Int):BV (Ab a) 66=Ap a 4:=by unfold BV Ab Ap Gj FE;(repeat' split);all_goals first|rfl|(exfalso;omega)
theorem wH(a:Int):BV (Ab a) 73=Ap a 8:=by unfold BV Ab Ap Gj FE;(repeat' split);all_goals first|rfl|(exfalso;omega)
theorem vW(a:Int):BV (Ab a) 72=Ap a 16:=by unfold BV Ab Ap Gj FE;(repeat' split);all_goals first|rfl|(exfalso;omega)
theorem Jp(u:Bool)(v b a:Int)(h:b<=0/\0<=a):((u||v==0)&&EM v b a)=Dc u v b a:=by
 cases u
 ·by_cases g:v=0
  ·subst g;simp[Dc,EM,h.1,h.2]
  ·simp[Dc,g]
 ·simp[Dc]
theorem su(a:Int):DF a<=0/\0<=DL a:=by
 unfold DF DL;constructor<;>(repeat' split)<;>omega
theorem jI(e d a b c h:Int):Bu e d a b c h=BF e d a b c h:=by
 unfold Bu BF;rw[xC,vY,vP,wH,vW,<-Jp _ d 0 7 AB,<-Jp _ a 0 7 AB,<-Jp _ b 0 7 AB,<-Jp _ h 0 7 AB,<-Jp _ c _ _ (su e)];ac_rfl
theorem U1(c d a b j h:Int)(w:World)(n:¬(1<=c/\c<=34)):
 Ks 39 #[.agg #[Vi c,Vi d,Vi a,Vi b,Vi j,Vi h]] w fun e l=>e=.returned (.bool (Bu c d a b j h))/\Below w.heap.size w l:=by
 by_cases m:1<=c
 ·have k:34<c:=AB
  go_enter Tryz.func39,Tryz.ntmps39;go_wp2;go_ret;refine⟨AY ?_,Ai⟩;have:EM c 1 34=false:=by simp[EM];omega
  simp[Bu,this]
 ·have k:c<1:=AB
  go_enter Tryz.func39,Tryz.ntmps39;go_wp2;go_ret;refine⟨AY ?_,Ai⟩;have:EM c 1 34=false:=by simp[EM];omega
  simp[Bu,this]
theorem fU(a:Int)(b:1<=a)(c:a<=34):a=1∨a=2∨a=10∨a=11∨a=12∨a=13∨a=17∨a=18∨(21<=a/\a<=24)∨(25<=a/\a<=28)∨(29<=a/\a<=33)∨a=34∨((3<=a/\a<=9)∨(14<=a/\a<=16)∨(19<=a/\a<=20)):=AB
theorem GX(m d a b n h:Int)(w:World):
 Ks 39 #[.agg #[Vi m,Vi d,Vi a,Vi b,Vi n,Vi h]] w fun e p=>e=.returned (.bool (BF m d a b n h))/\Below w.heap.size w p:=by
 rw[<-jI];by_cases o:1<=m/\m<=34
 ·obtain⟨j,k⟩:=o
  have l:EM m 1 34=true:=by simp[EM];omega
  rcases fU m j k with e|e|e|e|e|e|e|e|e|e|e|e|e
  ·subst e;exact Ve _ _ _ _ _ _ _ j k l (by rfl) (by rfl) (by rfl) (by rfl) (by rfl) (by rfl) (by rfl) (by rfl) (by rfl) (by rfl) (by rfl)
  ·subst e;exact WU _ _ _ _ _ _ _ j k l (by rfl) (by rfl) (by rfl) (by rfl) (by rfl) (by rfl) (by rfl) (by rfl) (by rfl) (by rfl) (by rfl)
  ·subst e;exact TP _ _ _ _ _ _ _ j k l (by rfl) (by rfl) (by rfl) (by rfl) (by rfl) (by rfl) (by rfl) (by rfl) (by rfl) (by rfl) (by rfl)
  ·subst e;exact Pm _ _ _ _ _ _ _ j k l (by rfl) (by rfl) (by rfl) (by rfl) (by rfl) (by rfl) (by rfl) (by rfl) (by rfl) (by rfl) (by rfl)
  ·subst e;exact QG _ _ _ _ _ _ _ j k l (by rfl) (by rfl) (by rfl) (by rfl) (by rfl) (by rfl) (by rfl) (by rfl) (by rfl) (by rfl) (by rfl)
  ·subst e;exact QC _ _ _ _ _ _ _ j k l (by rfl) (by rfl) (by rfl) (by rfl) (by rfl) (by rfl) (by rfl) (by rfl) (by rfl) (by rfl) (by rfl)
  ·subst e;exact VH _ _ _ _ _ _ _ j k l (by rfl) (by rfl) (by rfl) (by rfl) (by rfl) (by rfl) (by rfl) (by rfl) (by rfl) (by rfl) (by rfl)
  ·subst e;exact WG _ _ _ _ _ _ _ j k l (by rfl) (by rfl) (by rfl) (by rfl) (by rfl) (by rfl) (by rfl) (by rfl) (by rfl) (by rfl) (by rfl)
  ·have c:Gj m=[68,65,73,72]:=by unfold Gj;(repeat' split);all_goals first|rfl|(exfalso;omega)
   exact RD _ _ _ _ _ _ _ j k l (by unfold Ab;rw[c];rfl) (by unfold Ab;rw[c];rfl) (by unfold Ab;rw[c];rfl) (by unfold Ab;rw[c];rfl) (by unfold Ab;rw[c];rfl) (by simp;omega) (by simp;omega) (by simp;omega) (by simp[EH];omega) (by unfold DF;rw[if_neg AB]) (by unfold DL;rw[if_neg AB,if_neg AB])
  ·have c:Gj m=[68,65,66,72]:=by unfold Gj;(repeat' split);all_goals first|rfl|(exfalso;omega)
   exact Sv _ _ _ _ _ _ _ j k l (by unfold Ab;rw[c];rfl) (by unfold Ab;rw[c];rfl) (by unfold Ab;rw[c];rfl) (by unfold Ab;rw[c];rfl) (by unfold Ab;rw[c];rfl) (by simp;omega) (by simp;omega) (by simp;omega) (by simp[EH];omega) (by unfold DF;rw[if_neg AB]) (by unfold DL;rw[if_neg AB,if_neg AB])
  ·have c:Gj m=[73]:=by unfold Gj;(repeat' split);all_goals first|rfl|(exfalso;omega)
   exact Ry _ _ _ _ _ _ _ j k l (by unfold Ab;rw[c];rfl) (by unfold Ab;rw[c];rfl) (by unfold Ab;rw[c];rfl) (by unfold Ab;rw[c];rfl) (by unfold Ab;rw[c];rfl) (by simp;omega) (by simp;omega) (by simp;omega) (by simp[EH];omega) (by unfold DF;rw[if_pos AB]) (by unfold DL;rw[if_neg AB,if_pos AB])
  ·subst e;exact RQ _ _ _ _ _ _ _ j k l (by rfl) (by rfl) (by rfl) (by rfl) (by rfl) (by rfl) (by rfl) (by rfl) (by rfl) (by rfl) (by rfl)
  ·have c:Gj m=[68,65,66]:=by unfold Gj;(repeat' split);all_goals first|rfl|(exfalso;omega)
   exact TK _ _ _ _ _ _ _ j k l (by unfold Ab;rw[c];rfl) (by unfold Ab;rw[c];rfl) (by unfold Ab;rw[c];rfl) (by unfold Ab;rw[c];rfl) (by unfold Ab;rw[c];rfl) (by simp;omega) (by simp;omega) (by simp;omega) (by simp[EH];omega) (by unfold DF;rw[if_neg AB]) (by unfold DL;rw[if_neg AB,if_neg AB])
 ·exact U1 _ _ _ _ _ _ _ o
def Kt(F:Nat->Nat->Int)(i:Nat):Value:=Vi (F (i/6) (i%6))
theorem Eo(F:Nat->Nat->Int)(k j:Nat)(a:j<6):Kt F (k*6+j)=Vi (F k j):=by
 unfold Kt;rw[show(k*6+j)/6=k by omega,show(k*6+j)%6=j by omega]
def OY(F:Nat->Nat->Int)(i:Nat):Bool:=BF (F i 0) (F i 1) (F i 2) (F i 3) (F i 4) (F i 5)
def FP(len:Nat)(F:Nat->Nat->Int)(i:Nat):Bool:=OY F i&&!(EH (F i 0)&&decide ((len:Int)<=F i 4))
def EW(len:Nat)(F:Nat->Nat->Int):Bool:=decide (1<=len)&&decide (len<=2000)&&(List.range len).all (FP len F)&&(F (len-1) 0==34)
theorem Qu{k:Nat}(a:k<X)(h:FP X F k=false):EW X F=false:=by
 have:(List.range X).all (FP X F)=false:=by
  rw[List.all_eq_false];exact⟨k,List.mem_range.2 a,by simp[h]⟩
 simp[EW,this]
theorem UR(a:1<=X)(b:X<=2000)(h:∀i,i<X->FP X F i=true):EW X F=(F (X-1) 0==34):=by
 have:(List.range X).all (FP X F)=true:=by
  rw[List.all_eq_true];exact fun i c=>h i (List.mem_range.1 c)
 simp[EW,this,a,b]
theorem Qv{k:Nat}(h:∀i,i<k->FP X F i=true)(g:FP X F k=true):∀i,i<k+1->FP X F i=true:=by
 intro i a;by_cases e:i=k
 ·rw[e];exact g
 ·exact h i AB
theorem Zz(h:X<1∨2000<X):EW X F=false:=by
 rcases h with h|h<;>simp[EW]<;>intros<;>omega
theorem Ns(c:Option Addr)(a b:Nat)(F:Nat->Nat->Int)(w:World)(h:a<1∨2000<a)(j:a<=1048576):
 Ks 12 #[.slice c a b] w fun e d=>e=.returned (.bool (EW a F))/\Below w.heap.size w d:=by
 rw[Zz h];rcases h with h|h
 ·obtain rfl:a=0:=AB
  go_enter Tryz.func12,Tryz.ntmps12;go_wp2;go_ret;exact⟨rfl,Below.refl _ _⟩
 ·go_enter Tryz.func12,Tryz.ntmps12
  go_wp2;go_ret;exact⟨rfl,Below.refl _ _⟩
theorem Qt(b c a s:Nat)(F:Nat->Nat->Int)(w:World)(C:1<=a)(D:a<=2000)(o:At w b c (a*6) (Kt F)):
 Ks 12 #[.slice (some ⟨b,c,none⟩) a s] w fun e A=>e=.returned (.bool (EW a F))/\Below w.heap.size w A:=by
 have l:=o.lt;have j:=hxy o;go_enter Tryz.func12,Tryz.ntmps12;go_wp2;go_loopw [4](fun i wr=>∃k:Nat,k<=a/\i=Vi k/\Bw w wr/\∀i,i<k->FP a F i=true)(fun i _=>a-(intOf i).toNat)
 case atStart=>exact⟨0,Nat.zero_le _,rfl,Below.refl _ _,fun i L=>by omega⟩
 case round=>
  obtain⟨k,M,rfl,d,n⟩:=hrel;have r:=hxy n;by_cases q:k<a
  ·have y:=(d.cell (p:=Va b (c+k*6)) l).trans ((j.cell (i:=k*6+0) AB).trans (congrArg some (Eo F k 0 AB)))
   have E:=(d.cell (p:=Va b (c+k*6+1)) l).trans ((j.cell (i:=k*6+1) AB).trans (congrArg some (Eo F k 1 AB)));have I:=(d.cell (p:=Va b (c+k*6+2)) l).trans ((j.cell (i:=k*6+2) AB).trans (congrArg some (Eo F k 2 AB)));have J:=(d.cell (p:=Va b (c+k*6+3)) l).trans ((j.cell (i:=k*6+3) AB).trans (congrArg some (Eo F k 3 AB)));have B:=(d.cell (p:=Va b (c+k*6+4)) l).trans ((j.cell (i:=k*6+4) AB).trans (congrArg some (Eo F k 4 AB)));have K:=(d.cell (p:=Va b (c+k*6+5)) l).trans ((j.cell (i:=k*6+5) AB).trans (congrArg some (Eo F k 5 AB)));go_wp2_with fail;refine(GX _ _ _ _ _ _ _).mono ?_;rintro e N⟨rfl,u⟩;have h:=d.trans (u.mono d.size);have y:=(h.cell (p:=Va b (c+k*6)) l).trans ((j.cell (i:=k*6+0) AB).trans (congrArg some (Eo F k 0 AB)));have B:=(h.cell (p:=Va b (c+k*6+4)) l).trans ((j.cell (i:=k*6+4) AB).trans (congrArg some (Eo F k 4 AB)));go_wp2_with(go_at_call 40;refine(DY _ _).mono ?_;rintro e A⟨rfl,rfl⟩)
   ·go_ret
    have m:BF (F k 0) (F k 1) (F k 2) (F k 3) (F k 4) (F k 5)=true:=by assumption
    have x:EH (F k 0)=true:=by assumption
    have z:(a:Int)<=F k 4:=by assumption
    exact⟨AY (Qu q (by simp[FP,x,z])).symm,h⟩
   ·have m:BF (F k 0) (F k 1) (F k 2) (F k 3) (F k 4) (F k 5)=true:=by assumption
    have z:F k 4<(a:Int):=by assumption
    go_roundw
    case rel=>exact⟨k+1,AB,by go_num,h,Qv r (by simp[FP,OY,m];omega)⟩
    case measure=>simp[intOf];omega
   ·have m:BF (F k 0) (F k 1) (F k 2) (F k 3) (F k 4) (F k 5)=true:=by assumption
    have x:¬EH (F k 0)=true:=by assumption
    go_roundw
    case rel=>exact⟨k+1,AB,by go_num,h,Qv r (by simp[FP,OY,m,x])⟩
    case measure=>simp[intOf];omega
   ·go_ret
    have m:¬BF (F k 0) (F k 1) (F k 2) (F k 3) (F k 4) (F k 5)=true:=by assumption
    exact⟨AY (Qu q (by simp[FP,OY,m])).symm,h⟩
  ·obtain rfl:k=a:=AB
   have y:=(d.cell (p:=⟨b,c+(k-1)*6,none⟩) l).trans ((j.cell (i:=(k-1)*6+0) AB).trans (congrArg some (Eo F (k-1) 0 AB)));go_wp2;go_ret;exact⟨AY (UR C D r).symm,d⟩
theorem Ir(b c a d:Nat)(F:Nat->Nat->Int)(w:World)(k:a<=1048576)(j:At w b c (a*6) (Kt F)):
 Ks 12 #[.slice (some ⟨b,c,none⟩) a d] w fun e l=>e=.returned (.bool (EW a F))/\Below w.heap.size w l:=by
 by_cases h:a<1∨2000<a
 ·exact Ns _ _ _ F w h k
 ·exact Qt b c a d F w AB AB j
end Go.Proofs.YtcjnmdgomocpgaaGreatDoor
