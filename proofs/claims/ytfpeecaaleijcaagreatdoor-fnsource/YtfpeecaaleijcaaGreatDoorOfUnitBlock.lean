import Derived.Test.YtfpeecaaleijcaaGreatDoorOfCl
import Derived.Test.YtfpeecaaleijcaaGreatDoorOfInsSame
import Derived.Test.YtfpeecaaleijcaaGreatDoorRows
import Derived.Deep.RegionHeld3
import Derived.Deep.Cut
import Derived.Deep.DeepCutAuto
set_option maxHeartbeats 16000000
set_option maxRecDepth 20000
namespace Go.Proofs.YtfpeecaaleijcaaGreatDoor
open Go.RowKit
variable {deep depth me procs:Int}{i te:Nat}
structure SV where
 k:Int
 op:Int
 d:Int
 a:Int
 b:Int
 imm:Int
 h:Int
 cond:Int
 thn:Int
 els:Int
 proc:Int
def Mk(c:Int):Bool:=decide (1<=c/\c<=4)
abbrev GI(s:SV):Prop:=s.op=0/\s.d=0/\s.a=0/\s.b=0/\s.imm=0/\s.h=0
def BG(s:SV)(procs:Int):Bool:=
 if s.k=1 then Ar s.op s.d s.a s.b s.imm s.h&&decide (s.op<29/\s.cond=0/\s.thn=0/\s.els=0/\s.proc=0)
 else if s.k=2 then decide (GI s/\1<=s.cond/\s.cond<=4/\0<=s.thn/\0<=s.els/\s.proc=0)
 else if s.k=3 then decide (GI s/\1<=s.cond/\s.cond<=4/\0<=s.thn/\s.els=0/\s.proc=0)
 else if s.k=4 then decide (GI s/\s.cond=0/\s.thn=0/\s.els=0/\0<=s.proc/\s.proc<procs)
 else false
theorem Fh(c:Int)(w:World):Calls Tryz.prog 123 #[Vi c] w fun e w'=>e=.returned (.bool (Mk c))/\w'=w:=by
 go_enter Tryz.func123,Tryz.ntmps123;go_wp2;all_goals(go_ret;refine⟨Ag ?_,rfl⟩;simp[Mk]<;>omega)
theorem Rb(op d a b imm h cond thn els proc procs:Int)(w:World):
 Calls Tryz.prog 102 #[.agg #[Vi 1,Vi op,Vi d,Vi a,Vi b,Vi imm,Vi h,Vi cond,Vi thn,Vi els,Vi proc],Vi procs] w fun e w'=>e=.returned (.bool (BG ⟨1,op,d,a,b,imm,h,cond,thn,els,proc⟩ procs))/\Below w.heap.size w w':=by
 have h0:Below w.heap.size w (w.alloc (.cells #[Vi 1,Vi op,Vi d,Vi a,Vi b,Vi imm,Vi h,Vi cond,Vi thn,Vi els,Vi proc] 89)):=Ak;have H0:=hxy h0;clear h0;by_cases hz:cond=0/\thn=0/\els=0/\proc=0
 ·obtain⟨rfl,rfl,rfl,rfl⟩:=hz
  go_enter Tryz.func102,Tryz.ntmps102;go_wp2_with fail;refine(G8 op d a b imm h _).mono ?_;rintro e w1⟨rfl,hb⟩;obtain⟨hc,_⟩:=aZ hb;have hz:=hb.size;have HB:=hxy (H0.out.trans (hb.mono H0.out.size));simp only[World.size_alloc]at hz hc;clear hb;cases hi:Ar op d a b imm h with
  |false=>
   go_wp2;go_ret;exact⟨Ag (by simp[BG,hi]),HB.out⟩
  |true=>
   have HI:=hxy hi;clear hi;go_wp2;go_ret;exact⟨Ag (by simp[BG,HI.out]),HB.out⟩
 ·have HZ:Hid (BG ⟨1,op,d,a,b,imm,h,cond,thn,els,proc⟩ procs=false):=(by simp[BG];intros;omega:BG ⟨1,op,d,a,b,imm,h,cond,thn,els,proc⟩ procs=false)
  go_enter Tryz.func102,Tryz.ntmps102;go_wp2_with fail;all_goals first|(go_ret;exact⟨Ag HZ.out.symm,Ak⟩)|(exfalso;omega)
theorem Sn(op d a b imm h cond thn els proc procs:Int)(w:World):
 Calls Tryz.prog 102 #[.agg #[Vi 2,Vi op,Vi d,Vi a,Vi b,Vi imm,Vi h,Vi cond,Vi thn,Vi els,Vi proc],Vi procs] w fun e w'=>e=.returned (.bool (BG ⟨2,op,d,a,b,imm,h,cond,thn,els,proc⟩ procs))/\Below w.heap.size w w':=by
 by_cases hz:op=0/\d=0/\a=0/\b=0/\imm=0/\h=0/\proc=0
 ·obtain⟨rfl,rfl,rfl,rfl,rfl,rfl,rfl⟩:=hz
  go_enter Tryz.func102,Tryz.ntmps102;go_wp2_with(go_at_call 123;refine(Fh _ _).mono ?_;rintro e w'⟨rfl,rfl⟩);all_goals(go_ret;refine⟨Ag ?_,Ak⟩;simp_all[BG,GI,Mk]<;>omega)
 ·have HZ:Hid (BG ⟨2,op,d,a,b,imm,h,cond,thn,els,proc⟩ procs=false):=(by rw[Bool.eq_false_iff];intro hx;apply hz;simp[BG]at hx;omega:BG ⟨2,op,d,a,b,imm,h,cond,thn,els,proc⟩ procs=false)
  go_enter Tryz.func102,Tryz.ntmps102;go_wp2_with fail;all_goals first|(go_ret;exact⟨Ag HZ.out.symm,Ak⟩)|(exfalso;omega)
theorem Ry(op d a b imm h cond thn els proc procs:Int)(w:World):
 Calls Tryz.prog 102 #[.agg #[Vi 3,Vi op,Vi d,Vi a,Vi b,Vi imm,Vi h,Vi cond,Vi thn,Vi els,Vi proc],Vi procs] w fun e w'=>e=.returned (.bool (BG ⟨3,op,d,a,b,imm,h,cond,thn,els,proc⟩ procs))/\Below w.heap.size w w':=by
 by_cases hz:op=0/\d=0/\a=0/\b=0/\imm=0/\h=0/\els=0/\proc=0
 ·obtain⟨rfl,rfl,rfl,rfl,rfl,rfl,rfl,rfl⟩:=hz
  go_enter Tryz.func102,Tryz.ntmps102;go_wp2_with(go_at_call 123;refine(Fh _ _).mono ?_;rintro e w'⟨rfl,rfl⟩);all_goals(go_ret;refine⟨Ag ?_,Ak⟩;simp_all[BG,GI,Mk]<;>omega)
 ·have HZ:Hid (BG ⟨3,op,d,a,b,imm,h,cond,thn,els,proc⟩ procs=false):=(by rw[Bool.eq_false_iff];intro hx;apply hz;simp[BG]at hx;omega:BG ⟨3,op,d,a,b,imm,h,cond,thn,els,proc⟩ procs=false)
  go_enter Tryz.func102,Tryz.ntmps102;go_wp2_with fail;all_goals first|(go_ret;exact⟨Ag HZ.out.symm,Ak⟩)|(exfalso;omega)
theorem Sr(op d a b imm h cond thn els proc procs:Int)(w:World):
 Calls Tryz.prog 102 #[.agg #[Vi 4,Vi op,Vi d,Vi a,Vi b,Vi imm,Vi h,Vi cond,Vi thn,Vi els,Vi proc],Vi procs] w fun e w'=>e=.returned (.bool (BG ⟨4,op,d,a,b,imm,h,cond,thn,els,proc⟩ procs))/\Below w.heap.size w w':=by
 by_cases hz:op=0/\d=0/\a=0/\b=0/\imm=0/\h=0/\cond=0/\thn=0/\els=0
 ·obtain⟨rfl,rfl,rfl,rfl,rfl,rfl,rfl,rfl,rfl⟩:=hz
  go_enter Tryz.func102,Tryz.ntmps102;go_wp2;all_goals(go_ret;refine⟨Ag ?_,Ak⟩;simp_all[BG,GI]<;>omega)
 ·have HZ:Hid (BG ⟨4,op,d,a,b,imm,h,cond,thn,els,proc⟩ procs=false):=(by rw[Bool.eq_false_iff];intro hx;apply hz;simp[BG]at hx;omega:BG ⟨4,op,d,a,b,imm,h,cond,thn,els,proc⟩ procs=false)
  go_enter Tryz.func102,Tryz.ntmps102;go_wp2_with fail;all_goals first|(go_ret;exact⟨Ag HZ.out.symm,Ak⟩)|(exfalso;omega)
theorem Xr(op d a b imm h cond thn els proc procs:Int)(w:World):
 Calls Tryz.prog 82 #[.agg #[Vi 2,Vi op,Vi d,Vi a,Vi b,Vi imm,Vi h,Vi cond,Vi thn,Vi els,Vi proc],Vi procs] w fun e w'=>e=.returned (.bool (BG ⟨2,op,d,a,b,imm,h,cond,thn,els,proc⟩ procs))/\Below w.heap.size w w':=by
 by_cases hz:op=0/\d=0/\a=0/\b=0/\imm=0/\h=0
 ·obtain⟨rfl,rfl,rfl,rfl,rfl,rfl⟩:=hz
  go_enter Tryz.func82,Tryz.ntmps82;go_wp2_with(go_at_call 24;refine(Dx _ _ _ _).mono ?_;rintro e w'⟨rfl,rfl⟩);all_goals(go_ret;refine⟨Ag ?_,Ak⟩;simp_all[BG,GI,Ec]<;>first|omega|rfl|(rw[Bool.eq_iff_iff];simp;omega))
 ·have HZ:Hid (BG ⟨2,op,d,a,b,imm,h,cond,thn,els,proc⟩ procs=false):=(by rw[Bool.eq_false_iff];intro hx;apply hz;simp[BG]at hx;omega:BG ⟨2,op,d,a,b,imm,h,cond,thn,els,proc⟩ procs=false)
  go_enter Tryz.func82,Tryz.ntmps82;go_wp2_with fail;all_goals first|(go_ret;exact⟨Ag HZ.out.symm,Ak⟩)|(exfalso;omega)
theorem ZE(op d a b imm h cond thn els proc procs:Int)(w:World):
 Calls Tryz.prog 82 #[.agg #[Vi 3,Vi op,Vi d,Vi a,Vi b,Vi imm,Vi h,Vi cond,Vi thn,Vi els,Vi proc],Vi procs] w fun e w'=>e=.returned (.bool (BG ⟨3,op,d,a,b,imm,h,cond,thn,els,proc⟩ procs))/\Below w.heap.size w w':=by
 by_cases hz:op=0/\d=0/\a=0/\b=0/\imm=0/\h=0
 ·obtain⟨rfl,rfl,rfl,rfl,rfl,rfl⟩:=hz
  go_enter Tryz.func82,Tryz.ntmps82;go_wp2_with(go_at_call 24;refine(Dx _ _ _ _).mono ?_;rintro e w'⟨rfl,rfl⟩);all_goals(go_ret;refine⟨Ag ?_,Ak⟩;simp_all[BG,GI,Ec]<;>first|omega|rfl|(rw[Bool.eq_iff_iff];simp;omega))
 ·have HZ:Hid (BG ⟨3,op,d,a,b,imm,h,cond,thn,els,proc⟩ procs=false):=(by rw[Bool.eq_false_iff];intro hx;apply hz;simp[BG]at hx;omega:BG ⟨3,op,d,a,b,imm,h,cond,thn,els,proc⟩ procs=false)
  go_enter Tryz.func82,Tryz.ntmps82;go_wp2_with fail;all_goals first|(go_ret;exact⟨Ag HZ.out.symm,Ak⟩)|(exfalso;omega)
theorem Ye(op d a b imm h cond thn els proc procs:Int)(w:World)(p0:0<=procs)(p1:procs<=1048576):
 Calls Tryz.prog 82 #[.agg #[Vi 4,Vi op,Vi d,Vi a,Vi b,Vi imm,Vi h,Vi cond,Vi thn,Vi els,Vi proc],Vi procs] w fun e w'=>e=.returned (.bool (BG ⟨4,op,d,a,b,imm,h,cond,thn,els,proc⟩ procs))/\Below w.heap.size w w':=by
 by_cases hz:op=0/\d=0/\a=0/\b=0/\imm=0/\h=0
 ·obtain⟨rfl,rfl,rfl,rfl,rfl,rfl⟩:=hz
  go_enter Tryz.func82,Tryz.ntmps82;go_wp2_with(go_at_call 24;refine(Dx _ _ _ _).mono ?_;rintro e w'⟨rfl,rfl⟩);all_goals(go_ret;refine⟨Ag ?_,Ak⟩;simp_all[BG,GI,Ec]<;>first|omega|rfl|(rw[Bool.eq_iff_iff];simp;omega))
 ·have HZ:Hid (BG ⟨4,op,d,a,b,imm,h,cond,thn,els,proc⟩ procs=false):=(by rw[Bool.eq_false_iff];intro hx;apply hz;simp[BG]at hx;omega:BG ⟨4,op,d,a,b,imm,h,cond,thn,els,proc⟩ procs=false)
  go_enter Tryz.func82,Tryz.ntmps82;go_wp2_with fail;all_goals first|(go_ret;exact⟨Ag HZ.out.symm,Ak⟩)|(exfalso;omega)
theorem YH(op d a b imm h cond thn els proc procs:Int)(w:World):
 Calls Tryz.prog 82 #[.agg #[Vi 1,Vi op,Vi d,Vi a,Vi b,Vi imm,Vi h,Vi cond,Vi thn,Vi els,Vi proc],Vi procs] w fun e w'=>e=.returned (.bool (BG ⟨1,op,d,a,b,imm,h,cond,thn,els,proc⟩ procs))/\Below w.heap.size w w':=by
 have h0:Below w.heap.size w (w.alloc (.cells #[Vi 1,Vi op,Vi d,Vi a,Vi b,Vi imm,Vi h,Vi cond,Vi thn,Vi els,Vi proc] 89)):=Ak;have H0:=hxy h0;clear h0;obtain⟨res,hres⟩:=Ae (BG ⟨1,op,d,a,b,imm,h,cond,thn,els,proc⟩ procs);rw[hres];have HR:=hxy hres;clear hres;go_enter Tryz.func82,Tryz.ntmps82;go_upto_region 1 with fail;obtain⟨u,hu,hcl⟩:∃x,w.alloc (.cells #[Vi 1,Vi op,Vi d,Vi a,Vi b,Vi imm,Vi h,Vi cond,Vi thn,Vi els,Vi proc] 89)=x/\Cl x w.heap.size [Vi 1,Vi op,Vi d,Vi a,Vi b,Vi imm,Vi h,Vi cond,Vi thn,Vi els,Vi proc]:=⟨_,rfl,Cl.new⟩
 rw[hu]at H0⊢;have CC:=hxy hcl;clear hu hcl;have e0:u.cell? ⟨w.heap.size,0,none⟩=some (Vi 1):=CC.out.2 0 (by simp);have e1:u.cell? ⟨w.heap.size,1,none⟩=some (Vi op):=CC.out.2 1 (by simp);have e2:u.cell? ⟨w.heap.size,2,none⟩=some (Vi d):=CC.out.2 2 (by simp);have e3:u.cell? ⟨w.heap.size,3,none⟩=some (Vi a):=CC.out.2 3 (by simp);have e4:u.cell? ⟨w.heap.size,4,none⟩=some (Vi b):=CC.out.2 4 (by simp);have e5:u.cell? ⟨w.heap.size,5,none⟩=some (Vi imm):=CC.out.2 5 (by simp);have e6:u.cell? ⟨w.heap.size,6,none⟩=some (Vi h):=CC.out.2 6 (by simp);go_cut [0,5](fun _ s5 wx=>(∃t:Bool,s5=.bool t)/\wx=u)
 case first=>
  go_wp2_with fail;all_goals(go_meet;exact⟨⟨_,rfl⟩,rfl⟩)
 case rest=>
  obtain⟨⟨t,rfl⟩,hw⟩:=hcut;rw[hw];clear hw;go_wp2_with fail;refine(En op d a b imm h _).mono ?_;rintro e w1⟨rfl,hb⟩;have HB:=hxy (H0.out.trans (hb.mono H0.out.size));have C1:=hxy (CC.out.below hb);clear hb e0 e1 e2 e3 e4 e5 e6;have f1:w1.cell? ⟨w.heap.size,1,none⟩=some (Vi op):=C1.out.2 1 (by simp);have f7:w1.cell? ⟨w.heap.size,7,none⟩=some (Vi cond):=C1.out.2 7 (by simp);have f8:w1.cell? ⟨w.heap.size,8,none⟩=some (Vi thn):=C1.out.2 8 (by simp);have f9:w1.cell? ⟨w.heap.size,9,none⟩=some (Vi els):=C1.out.2 9 (by simp);have f10:w1.cell? ⟨w.heap.size,10,none⟩=some (Vi proc):=C1.out.2 10 (by simp);cases hok:Ar op d a b imm h with
  |false=>
   go_wp2;go_ret;exact⟨Ag (by rw[<-HR.out];simp[BG,hok]),HB.out⟩
  |true=>
   have HOK:=hxy hok;clear hok;go_wp2;all_goals(go_ret;refine⟨Ag ?_,HB.out⟩;rw[<-HR.out];simp_all[BG,HOK.out]<;>first|omega|rfl)
theorem Xx(op d a b imm h cond thn els proc procs k:Int)(w:World)(h1:k≠1)(h2:k≠2)(h3:k≠3)(h4:k≠4):
 Calls Tryz.prog 82 #[.agg #[Vi k,Vi op,Vi d,Vi a,Vi b,Vi imm,Vi h,Vi cond,Vi thn,Vi els,Vi proc],Vi procs] w fun e w'=>e=.returned (.bool (BG ⟨k,op,d,a,b,imm,h,cond,thn,els,proc⟩ procs))/\Below w.heap.size w w':=by
 have HS:Hid (BG ⟨k,op,d,a,b,imm,h,cond,thn,els,proc⟩ procs=false):=(by simp[BG,h1,h2,h3,h4]:BG ⟨k,op,d,a,b,imm,h,cond,thn,els,proc⟩ procs=false)
 go_enter Tryz.func82,Tryz.ntmps82;go_wp2;all_goals first|(go_ret;exact⟨Ag HS.out.symm,Ak⟩)|(exfalso;omega)
theorem Ul(s:SV)(procs:Int)(w:World)(p0:0<=procs)(p1:procs<=1048576):
 Calls Tryz.prog 82 #[.agg #[Vi s.k,Vi s.op,Vi s.d,Vi s.a,Vi s.b,Vi s.imm,Vi s.h,Vi s.cond,Vi s.thn,Vi s.els,Vi s.proc],Vi procs] w fun e w'=>e=.returned (.bool (BG s procs))/\Below w.heap.size w w':=by
 obtain⟨k,op,d,a,b,imm,h,cond,thn,els,proc⟩:=s;by_cases h1:k=1
 ·subst h1;exact YH op d a b imm h cond thn els proc procs w
 ·by_cases h2:k=2
  ·subst h2;exact Xr op d a b imm h cond thn els proc procs w
  ·by_cases h3:k=3
   ·subst h3;exact ZE op d a b imm h cond thn els proc procs w
   ·by_cases h4:k=4
    ·subst h4;exact Ye op d a b imm h cond thn els proc procs w p0 p1
    ·exact Xx op d a b imm h cond thn els proc procs k w h1 h2 h3 h4
theorem Rc(op d a b imm h cond thn els proc procs k:Int)(w:World)(h1:k≠1)(h2:k≠2)(h3:k≠3)(h4:k≠4):
 Calls Tryz.prog 102 #[.agg #[Vi k,Vi op,Vi d,Vi a,Vi b,Vi imm,Vi h,Vi cond,Vi thn,Vi els,Vi proc],Vi procs] w fun e w'=>e=.returned (.bool (BG ⟨k,op,d,a,b,imm,h,cond,thn,els,proc⟩ procs))/\Below w.heap.size w w':=by
 have HS:Hid (BG ⟨k,op,d,a,b,imm,h,cond,thn,els,proc⟩ procs=false):=(by simp[BG,h1,h2,h3,h4]:BG ⟨k,op,d,a,b,imm,h,cond,thn,els,proc⟩ procs=false)
 go_enter Tryz.func102,Tryz.ntmps102;go_wp2;all_goals first|(go_ret;exact⟨Ag HS.out.symm,Ak⟩)|(exfalso;omega)
theorem Na(s:SV)(procs:Int)(w:World):
 Calls Tryz.prog 102 #[.agg #[Vi s.k,Vi s.op,Vi s.d,Vi s.a,Vi s.b,Vi s.imm,Vi s.h,Vi s.cond,Vi s.thn,Vi s.els,Vi s.proc],Vi procs] w fun e w'=>e=.returned (.bool (BG s procs))/\Below w.heap.size w w':=by
 obtain⟨k,op,d,a,b,imm,h,cond,thn,els,proc⟩:=s;by_cases h1:k=1
 ·subst h1;exact Rb op d a b imm h cond thn els proc procs w
 ·by_cases h2:k=2
  ·subst h2;exact Sn op d a b imm h cond thn els proc procs w
  ·by_cases h3:k=3
   ·subst h3;exact Ry op d a b imm h cond thn els proc procs w
   ·by_cases h4:k=4
    ·subst h4;exact Sr op d a b imm h cond thn els proc procs w
    ·exact Rc op d a b imm h cond thn els proc procs k w h1 h2 h3 h4
def iI(x:SV):Nat->Value
 |0=>Vi x.k
 |1=>Vi x.op
 |2=>Vi x.d
 |3=>Vi x.a
 |4=>Vi x.b
 |5=>Vi x.imm
 |6=>Vi x.h
 |7=>Vi x.cond
 |8=>Vi x.thn
 |9=>Vi x.els
 |_=>Vi x.proc
def IU(L:Nat->SV)(i:Nat):Value:=iI (L (i/11)) (i%11)
theorem Bn(L:Nat->SV)(k j:Nat)(hj:j<11):IU L (k*11+j)=iI (L k) j:=by
 unfold IU;rw[show(k*11+j)/11=k by omega,show(k*11+j)%11=j by omega]
theorem Eu{w:World}{b n:Nat}{L:Nat->SV}(h:A9 w b (n*11) (IU L))(k:Nat)(hk:k<n):w.cell? (Va b (k*11))=some (Vi (L k).k)/\w.cell? (Va b (k*11+1))=some (Vi (L k).op)/\w.cell? (Va b (k*11+2))=some (Vi (L k).d)/\w.cell? (Va b (k*11+3))=some (Vi (L k).a)/\w.cell? (Va b (k*11+4))=some (Vi (L k).b)/\w.cell? (Va b (k*11+5))=some (Vi (L k).imm)/\w.cell? (Va b (k*11+6))=some (Vi (L k).h)/\w.cell? (Va b (k*11+7))=some (Vi (L k).cond)/\w.cell? (Va b (k*11+8))=some (Vi (L k).thn)/\w.cell? (Va b (k*11+9))=some (Vi (L k).els)/\w.cell? (Va b (k*11+10))=some (Vi (L k).proc):=
 ⟨(h.cell (i:=k*11+0) (by omega)).trans (congrArg some (Bn L k 0 (by omega))),(h.cell (i:=k*11+1) (by omega)).trans (congrArg some (Bn L k 1 (by omega))),(h.cell (i:=k*11+2) (by omega)).trans (congrArg some (Bn L k 2 (by omega))),(h.cell (i:=k*11+3) (by omega)).trans (congrArg some (Bn L k 3 (by omega))),(h.cell (i:=k*11+4) (by omega)).trans (congrArg some (Bn L k 4 (by omega))),(h.cell (i:=k*11+5) (by omega)).trans (congrArg some (Bn L k 5 (by omega))),(h.cell (i:=k*11+6) (by omega)).trans (congrArg some (Bn L k 6 (by omega))),(h.cell (i:=k*11+7) (by omega)).trans (congrArg some (Bn L k 7 (by omega))),(h.cell (i:=k*11+8) (by omega)).trans (congrArg some (Bn L k 8 (by omega))),(h.cell (i:=k*11+9) (by omega)).trans (congrArg some (Bn L k 9 (by omega))),(h.cell (i:=k*11+10) (by omega)).trans (congrArg some (Bn L k 10 (by omega)))⟩
theorem Gx{w:World}{b:Nat}{s:SV}(h:Cl w b [Vi s.k,Vi s.op,Vi s.d,Vi s.a,Vi s.b,Vi s.imm,Vi s.h,Vi s.cond,Vi s.thn,Vi s.els,Vi s.proc]):w.cell? (Va b 0)=some (Vi s.k)/\w.cell? (Va b 1)=some (Vi s.op)/\w.cell? (Va b 2)=some (Vi s.d)/\w.cell? (Va b 3)=some (Vi s.a)/\w.cell? (Va b 4)=some (Vi s.b)/\w.cell? (Va b 5)=some (Vi s.imm)/\w.cell? (Va b 6)=some (Vi s.h)/\w.cell? (Va b 7)=some (Vi s.cond)/\w.cell? (Va b 8)=some (Vi s.thn)/\w.cell? (Va b 9)=some (Vi s.els)/\w.cell? (Va b 10)=some (Vi s.proc):=
 ⟨h.2 0 (by simp),h.2 1 (by simp),h.2 2 (by simp),h.2 3 (by simp),h.2 4 (by simp),h.2 5 (by simp),h.2 6 (by simp),h.2 7 (by simp),h.2 8 (by simp),h.2 9 (by simp),h.2 10 (by simp)⟩
theorem KN{s:SV}(h:BG s procs=true):0<=s.thn/\0<=s.els:=by
 unfold BG at h;split at h
 ·simp at h;omega
 ·split at h
  ·simp at h;omega
  ·split at h
   ·simp at h;omega
   ·split at h
    ·simp at h;omega
    ·cases h
def CZ(L:Nat->SV)(me procs deep:Int)(i te:Nat)(depth:Int):Int×Int:=
 if _h:i<te then
  if BG (L i) procs=false then(2,i)
  else if hs:i+1+(L i).thn.toNat+(L i).els.toNat<=te then
   if((L i).k=2∨(L i).k=3)/\deep<=depth then(4,i)
   else if(L i).k=4/\(L i).proc<=me then(5,i)
   else if(CZ L me procs deep (i+1) (i+1+(L i).thn.toNat) (depth+1)).1≠0 then CZ L me procs deep (i+1) (i+1+(L i).thn.toNat) (depth+1)
   else if(CZ L me procs deep (i+1+(L i).thn.toNat) (i+1+(L i).thn.toNat+(L i).els.toNat) (depth+1)).1≠0 then CZ L me procs deep (i+1+(L i).thn.toNat) (i+1+(L i).thn.toNat+(L i).els.toNat) (depth+1)
   else CZ L me procs deep (i+1+(L i).thn.toNat+(L i).els.toNat) te depth
  else(3,i)
 else(0,0)
theorem JR{L:Nat->SV}(h:¬i<te):CZ L me procs deep i te depth=(0,0):=by rw[CZ,dif_neg h]
theorem Lc{L:Nat->SV}(h:i<te)(h1:BG (L i) procs=false):CZ L me procs deep i te depth=(2,(i:Int)):=by rw[CZ,dif_pos h,if_pos h1]
theorem Fx{L:Nat->SV}(h:i<te)(h1:¬BG (L i) procs=false)(h2:¬i+1+(L i).thn.toNat+(L i).els.toNat<=te):CZ L me procs deep i te depth=(3,(i:Int)):=by rw[CZ,dif_pos h,if_neg h1,dif_neg h2]
theorem Gs{L:Nat->SV}(h:i<te)(h1:¬BG (L i) procs=false)(h2:i+1+(L i).thn.toNat+(L i).els.toNat<=te)(h3:((L i).k=2∨(L i).k=3)/\deep<=depth):CZ L me procs deep i te depth=(4,(i:Int)):=by rw[CZ,dif_pos h,if_neg h1,dif_pos h2,if_pos h3]
theorem LX{L:Nat->SV}(h:i<te)(h1:¬BG (L i) procs=false)(h2:i+1+(L i).thn.toNat+(L i).els.toNat<=te)(h3:¬(((L i).k=2∨(L i).k=3)/\deep<=depth))(h4:(L i).k=4/\(L i).proc<=me):CZ L me procs deep i te depth=(5,(i:Int)):=by rw[CZ,dif_pos h,if_neg h1,dif_pos h2,if_neg h3,if_pos h4]
theorem JU{L:Nat->SV}(h:i<te)(h1:¬BG (L i) procs=false)(h2:i+1+(L i).thn.toNat+(L i).els.toNat<=te)(h3:¬(((L i).k=2∨(L i).k=3)/\deep<=depth))(h4:¬((L i).k=4/\(L i).proc<=me)):CZ L me procs deep i te depth=if(CZ L me procs deep (i+1) (i+1+(L i).thn.toNat) (depth+1)).1≠0 then CZ L me procs deep (i+1) (i+1+(L i).thn.toNat) (depth+1)
 else if(CZ L me procs deep (i+1+(L i).thn.toNat) (i+1+(L i).thn.toNat+(L i).els.toNat) (depth+1)).1≠0 then CZ L me procs deep (i+1+(L i).thn.toNat) (i+1+(L i).thn.toNat+(L i).els.toNat) (depth+1)
 else CZ L me procs deep (i+1+(L i).thn.toNat+(L i).els.toNat) te depth:=by rw[CZ,dif_pos h,if_neg h1,dif_pos h2,if_neg h3,if_neg h4]
theorem Sd(b n cap:Nat)(L:Nat->SV)(me procs deep:Int)(ln:n<=1048576)(p0:0<=procs)(p1:procs<=1048576):∀(m i te:Nat)(depth:Int)(w:World),te-i<=m->i<=te->te<=n->0<=depth->depth+m<=1099511627776->A9 w b (n*11) (IU L)->
 Calls Tryz.prog 48 #[Vs b n cap,Vi (i:Int),Vi (te:Int),Vi me,Vi procs,Vi depth,Vi deep] w fun e w'=>e=.returned (.tuple #[Vi (CZ L me procs deep i te depth).1,Vi (CZ L me procs deep i te depth).2])/\Below w.heap.size w w':=by
 intro m;induction m using Nat.strongRecOn with
 |ind m ih=>
 intro i te depth w hm hit htn d0 d1 hA;have HA:=hxy hA;have IH:Hid _:=ih;clear hA ih;obtain⟨res,hres⟩:=Ae (CZ L me procs deep i te depth);rw[hres];have HR:=hxy hres;clear hres;go_enter Tryz.func48,Tryz.ntmps48;go_wp2;go_loopw [16](fun iv wr=>∃j:Nat,i<=j/\j<=te/\iv=Vi (j:Int)/\Below w.heap.size w wr/\CZ L me procs deep j te depth=res)(fun iv _=>te-(intOf iv).toNat)
 case atStart=>exact⟨i,jG,hit,rfl,Below.refl _ _,HR.out⟩
 case round=>
  obtain⟨j,hij,hjt,rfl,hbr,hcr⟩:=hrel;have HBR:=hxy hbr;have HCR:=hxy hcr;clear hbr hcr;by_cases hlt:j<te
  rotate_left
  ·have hlt':¬(j:Int)<(te:Int):=by omega
   go_wp2;exact bodyPost_ret (v:=.tuple #[Vi 0,Vi 0]) (by simp[results,Tryz.results48,go_sem]) rfl ⟨by rw[<-HCR.out,JR hlt],HBR.out⟩
  have hlt':(j:Int)<(te:Int):=by omega
  have hjn:(j:Int)<(n:Int):=by omega
  have HAR:=hxy (HA.out.below HBR.out HA.out.lt);obtain⟨s0,s1,s2,s3,s4,s5,s6,s7,s8,s9,s10⟩:=Eu HAR.out j (by omega);go_wp2_with fail;obtain⟨u,hu,hb0,hc0⟩:∃v,wr.alloc (.cells #[Vi (L j).k,Vi (L j).op,Vi (L j).d,Vi (L j).a,Vi (L j).b,Vi (L j).imm,Vi (L j).h,Vi (L j).cond,Vi (L j).thn,Vi (L j).els,Vi (L j).proc] 89)=v/\Below wr.heap.size wr v/\Cl v wr.heap.size [Vi (L j).k,Vi (L j).op,Vi (L j).d,Vi (L j).a,Vi (L j).b,Vi (L j).imm,Vi (L j).h,Vi (L j).cond,Vi (L j).thn,Vi (L j).els,Vi (L j).proc]:=⟨_,rfl,Ak,Cl.new⟩
  rw[hu];have B0:=hxy (HBR.out.trans (hb0.mono HBR.out.size));have C0:=hxy hc0;clear hu hb0 hc0 s0 s1 s2 s3 s4 s5 s6 s7 s8 s9 s10;generalize wr.heap.size=nb at *;refine(Ul (L j) procs _ p0 p1).mono ?_;rintro e u1⟨rfl,hb⟩;have B1:=hxy (B0.out.trans (hb.mono B0.out.size));have C1:=hxy (C0.out.below hb);clear hb B0 C0;cases hok:BG (L j) procs with
  |false=>
   have HOK:=hxy hok;clear hok;go_wp2;exact bodyPost_ret (v:=.tuple #[Vi 2,Vi (j:Int)]) (by simp[results,Tryz.results48,go_sem]) rfl ⟨by rw[<-HCR.out,Lc hlt HOK.out],B1.out⟩
  |true=>
  obtain⟨tp,ep⟩:=KN hok;have HOK:Hid (¬BG (L j) procs=false):=(by simp[hok]:¬BG (L j) procs=false)
  clear hok;obtain⟨a,ha⟩:∃x:Nat,(L j).thn=(x:Int):=⟨(L j).thn.toNat,by omega⟩
  obtain⟨c,hc⟩:∃x:Nat,(L j).els=(x:Int):=⟨(L j).els.toNat,by omega⟩
  have HTA:Hid ((L j).thn.toNat=a):=(by omega:(L j).thn.toNat=a)
  have HTC:Hid ((L j).els.toNat=c):=(by omega:(L j).els.toNat=c)
  obtain⟨c0,c1,c2,c3,c4,c5,c6,c7,c8,c9,c10⟩:=Gx C1.out;have zl:=C1.out.1;rw[ha]at c8;rw[hc]at c9;have HA8:=hxy ha;have HC9:=hxy hc;clear ha hc tp ep;by_cases hs:j+1+a+c<=te
  rotate_left
  ·have HS:Hid (¬j+1+(L j).thn.toNat+(L j).els.toNat<=te):=(by rw[HTA.out,HTC.out];exact hs:¬j+1+(L j).thn.toNat+(L j).els.toNat<=te)
   by_cases h1:(a:Int)>(te:Int)-(j:Int)-1
   ·have e1:decide ((te:Int)-(j:Int)-1<(a:Int))=true:=by simp;omega
    go_wp2;exact bodyPost_ret (v:=.tuple #[Vi 3,Vi (j:Int)]) (by simp[results,Tryz.results48,go_sem]) rfl ⟨by rw[<-HCR.out,Fx hlt HOK.out HS.out],B1.out⟩
   ·have e1:decide ((te:Int)-(j:Int)-1<(a:Int))=false:=by simp;omega
    have e2:decide ((te:Int)-(j:Int)-1-(a:Int)<(c:Int))=true:=by simp;omega
    go_wp2;exact bodyPost_ret (v:=.tuple #[Vi 3,Vi (j:Int)]) (by simp[results,Tryz.results48,go_sem]) rfl ⟨by rw[<-HCR.out,Fx hlt HOK.out HS.out],B1.out⟩
  have HS:Hid (j+1+(L j).thn.toNat+(L j).els.toNat<=te):=(by rw[HTA.out,HTC.out];exact hs:j+1+(L j).thn.toNat+(L j).els.toNat<=te)
  have e1:decide ((te:Int)-(j:Int)-1<(a:Int))=false:=by simp;omega
  have e2:decide ((te:Int)-(j:Int)-1-(a:Int)<(c:Int))=false:=by simp;omega
  by_cases h3:((L j).k=2∨(L j).k=3)/\deep<=depth
  ·have H3:=hxy h3
   have e4:decide (deep<=depth)=true:=by simp;omega
   by_cases h2:(L j).k=2
   ·have e3:((L j).k==2)=true:=by simp[h2]
    clear h3 h2;go_wp2;exact bodyPost_ret (v:=.tuple #[Vi 4,Vi (j:Int)]) (by simp[results,Tryz.results48,go_sem]) rfl ⟨by rw[<-HCR.out,Gs hlt HOK.out HS.out H3.out],B1.out⟩
   ·have e3:((L j).k==2)=false:=by simp[h2]
    have e5:((L j).k==3)=true:=by rcases h3.1 with q|q<;>simp_all
    clear h3 h2;go_wp2;exact bodyPost_ret (v:=.tuple #[Vi 4,Vi (j:Int)]) (by simp[results,Tryz.results48,go_sem]) rfl ⟨by rw[<-HCR.out,Gs hlt HOK.out HS.out H3.out],B1.out⟩
  have H3:=hxy h3;clear h3;go_upto_region 9 with fail;go_cut [64](fun s64 wx=>s64=.bool false/\wx=u1)
  case first=>
   by_cases h2:(L j).k=2
   ·have e3:((L j).k==2)=true:=by simp[h2]
    have e4:decide (deep<=depth)=false:=by have:=H3.out;simp;omega
    clear h2;go_wp2_with fail;go_meet;exact⟨rfl,rfl⟩
   ·have e3:((L j).k==2)=false:=by simp[h2]
    by_cases h5:(L j).k=3
    ·have e5:((L j).k==3)=true:=by simp[h5]
     have e4:decide (deep<=depth)=false:=by have:=H3.out;simp;omega
     clear h2 h5;go_wp2_with fail;go_meet;exact⟨rfl,rfl⟩
    ·have e5:((L j).k==3)=false:=by simp[h5]
     clear h2 h5;go_wp2_with fail;go_meet;exact⟨rfl,rfl⟩
  case rest=>
   obtain⟨rfl,hw⟩:=hcut;rw[hw];clear hw;clear e1 e2;by_cases h4:(L j).k=4/\(L j).proc<=me
   ·have H4:=hxy h4
    have e6:((L j).k==4)=true:=by simp[h4.1]
    have e7:decide ((L j).proc<=me)=true:=by simp[h4.2]
    clear h4;go_wp2;exact bodyPost_ret (v:=.tuple #[Vi 5,Vi (j:Int)]) (by simp[results,Tryz.results48,go_sem]) rfl ⟨by rw[<-HCR.out,LX hlt HOK.out HS.out H3.out H4.out],B1.out⟩
   have H4:=hxy h4;clear h4;go_upto_region 11 with fail;go_cut [74](fun s74 wx=>s74=.bool false/\wx=u1)
   case first=>
    by_cases h2:(L j).k=4
    ·have e6:((L j).k==4)=true:=by simp[h2]
     have e7:decide ((L j).proc<=me)=false:=by have:=H4.out;simp;omega
     clear h2;go_wp2_with fail;go_meet;exact⟨rfl,rfl⟩
    ·have e6:((L j).k==4)=false:=by simp[h2]
     clear h2;go_wp2_with fail;go_meet;exact⟨rfl,rfl⟩
   case rest=>
    obtain⟨rfl,hw⟩:=hcut;rw[hw];clear hw;go_wp2_with fail;have hcall:=IH.out (te-j-1) (by omega) (j+1) (j+1+a) (depth+1) u1 (by omega) (by omega) (by omega) (by omega) (by omega) (HA.out.below B1.out HA.out.lt);rw[show((j+1:Nat):Int)=(j:Int)+1 by omega,show((j+1+a:Nat):Int)=(j:Int)+1+(a:Int)by omega]at hcall;refine hcall.mono ?_;clear hcall;rintro e u2⟨rfl,hb⟩;have B2:=hxy (B1.out.trans (hb.mono B1.out.size));have C2:=hxy (C1.out.below hb);clear hb C1;clear c0 c1 c2 c3 c4 c5 c6 c7 c8 c9 c10 zl;obtain⟨r1,hr1⟩:=Ae (CZ L me procs deep (j+1) (j+1+a) (depth+1));rw[hr1];have HR1:Hid (CZ L me procs deep (j+1) (j+1+(L j).thn.toNat) (depth+1)=r1):=(by rw[HTA.out];exact hr1:CZ L me procs deep (j+1) (j+1+(L j).thn.toNat) (depth+1)=r1)
    clear hr1;have HT:=JU hlt HOK.out HS.out H3.out H4.out;rw[HR1.out]at HT;have HTT:Hid _:=HT;clear HT;obtain⟨c0,c1,c2,c3,c4,c5,c6,c7,c8,c9,c10⟩:=Gx C2.out;have zl:=C2.out.1;rw[HA8.out]at c8;rw[HC9.out]at c9;by_cases z1:r1.1=0
    rotate_left
    ·have e8:(r1.1==0)=false:=by simp[z1]
     have e9:(r1.1 !=0)=true:=by simp[z1]
     have Z1:=hxy z1;clear z1;go_wp2;exact bodyPost_ret (v:=.tuple #[Vi r1.1,Vi r1.2]) (by simp[results,Tryz.results48,go_sem]) rfl ⟨by rw[<-HCR.out,HTT.out,if_pos Z1.out],B2.out⟩
    have e8:(r1.1==0)=true:=by simp[z1]
    have Z1:Hid (¬r1.1≠0):=(by simp[z1]:¬r1.1≠0)
    clear z1;go_wp2_with fail;have hcall:=IH.out (te-j-1) (by omega) (j+1+a) (j+1+a+c) (depth+1) u2 (by omega) (by omega) (by omega) (by omega) (by omega) (HA.out.below B2.out HA.out.lt);rw[show((j+1+a:Nat):Int)=(j:Int)+1+(a:Int)by omega,show((j+1+a+c:Nat):Int)=(j:Int)+1+(a:Int)+(c:Int)by omega]at hcall;refine hcall.mono ?_;clear hcall;rintro e u3⟨rfl,hb⟩;have B3:=hxy (B2.out.trans (hb.mono B2.out.size));have C3:=hxy (C2.out.below hb);clear hb C2;clear c0 c1 c2 c3 c4 c5 c6 c7 c8 c9 c10 zl;obtain⟨r2,hr2⟩:=Ae (CZ L me procs deep (j+1+a) (j+1+a+c) (depth+1));rw[hr2];have HR2:Hid (CZ L me procs deep (j+1+(L j).thn.toNat) (j+1+(L j).thn.toNat+(L j).els.toNat) (depth+1)=r2):=(by rw[HTA.out,HTC.out];exact hr2:CZ L me procs deep (j+1+(L j).thn.toNat) (j+1+(L j).thn.toNat+(L j).els.toNat) (depth+1)=r2)
    clear hr2 e8;obtain⟨c0,c1,c2,c3,c4,c5,c6,c7,c8,c9,c10⟩:=Gx C3.out;have zl:=C3.out.1;rw[HA8.out]at c8;rw[HC9.out]at c9;by_cases z2:r2.1=0
    rotate_left
    ·have e9:(r2.1 !=0)=true:=by simp[z2]
     have Z2:=hxy z2;clear z2;go_wp2;exact bodyPost_ret (v:=.tuple #[Vi r2.1,Vi r2.2]) (by simp[results,Tryz.results48,go_sem]) rfl ⟨by rw[<-HCR.out,HTT.out,if_neg Z1.out,HR2.out,if_pos Z2.out],B3.out⟩
    have e9:(r2.1 !=0)=false:=by simp[z2]
    have Z2:Hid (¬r2.1≠0):=(by simp[z2]:¬r2.1≠0)
    clear z2;go_wp2;go_roundw
    case rel=>
     refine⟨j+1+a+c,by omega,by omega,by go_num,B3.out,?_⟩;rw[<-HCR.out,HTT.out,if_neg Z1.out,HR2.out,if_neg Z2.out,HTA.out,HTC.out]
    case measure=>simp[intOf];omega
end Go.Proofs.YtfpeecaaleijcaaGreatDoor
