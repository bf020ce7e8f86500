import Derived.Test.YtplnpgohdgialaaOfInsSame
import Derived.Test.YtplnpgohdgialaaOfCl
import Derived.Test.YtplnpgohdgialaaRows
import Derived.Deep.RegionHeld3
import Derived.Deep.Cut
import Derived.Deep.DeepCutAuto
set_option maxHeartbeats 16000000
set_option maxRecDepth 20000
namespace Go.Proofs.Ytplnpgohdgialaa
open Go.RowKit
structure SV where
 k:Int
 op:Int
 d:Int
 a:Int
 b:Int
 imm:Int
 h:Int
 cond:Int
 thn:Int
 els:Int
 proc:Int
def condB(c:Int):Bool:=decide (1<=c/\c<=4)
abbrev noIns(s:SV):Prop:=s.op=0/\s.d=0/\s.a=0/\s.b=0/\s.imm=0/\s.h=0
def stOK(s:SV)(procs:Int):Bool:=
 if s.k=1 then implIns s.op s.d s.a s.b s.imm s.h&&decide (s.op<29/\s.cond=0/\s.thn=0/\s.els=0/\s.proc=0)
 else if s.k=2 then decide (noIns s/\1<=s.cond/\s.cond<=4/\0<=s.thn/\0<=s.els/\s.proc=0)
 else if s.k=3 then decide (noIns s/\1<=s.cond/\s.cond<=4/\0<=s.thn/\s.els=0/\s.proc=0)
 else if s.k=4 then decide (noIns s/\s.cond=0/\s.thn=0/\s.els=0/\0<=s.proc/\s.proc<procs)
 else false
theorem validCond_any(c:Int)(w:World):Calls Try.prog 62 #[.int .i64 c] w fun e w'=>e=.returned (.bool (condB c))/\w'=w:=by
 go_enter Try.func62,Try.ntmps62;go_wp2;all_goals(go_ret;refine⟨ret_bool ?_,rfl⟩;simp[condB]<;>omega)
theorem validStmt_1(op d a b imm h cond thn els proc procs:Int)(w:World):
 Calls Try.prog 49 #[.agg #[.int .i64 1,.int .i64 op,.int .i64 d,.int .i64 a,.int .i64 b,.int .i64 imm,.int .i64 h,.int .i64 cond,.int .i64 thn,.int .i64 els,.int .i64 proc],.int .i64 procs] w fun e w'=>e=.returned (.bool (stOK ⟨1,op,d,a,b,imm,h,cond,thn,els,proc⟩ procs))/\Below w.heap.size w w':=by
 have h0:Below w.heap.size w (w.alloc (.cells #[.int .i64 1,.int .i64 op,.int .i64 d,.int .i64 a,.int .i64 b,.int .i64 imm,.int .i64 h,.int .i64 cond,.int .i64 thn,.int .i64 els,.int .i64 proc] 33)):=(Below.refl _ _).alloc (Nat.le_refl _) _;have H0:Hid (Below w.heap.size w (w.alloc (.cells #[.int .i64 1,.int .i64 op,.int .i64 d,.int .i64 a,.int .i64 b,.int .i64 imm,.int .i64 h,.int .i64 cond,.int .i64 thn,.int .i64 els,.int .i64 proc] 33))):=h0;clear h0;by_cases hz:cond=0/\thn=0/\els=0/\proc=0
 ·obtain⟨rfl,rfl,rfl,rfl⟩:=hz
  go_enter Try.func49,Try.ntmps49;go_wp2_with fail;refine(implIns_any op d a b imm h _).mono ?_;rintro e w1⟨rfl,hb⟩;obtain⟨hc,_⟩:=bcell hb;have hz:=hb.size;have HB:Hid (Below w.heap.size w w1):=H0.out.trans (hb.mono H0.out.size);simp only[World.size_alloc]at hz hc;clear hb;cases hi:implIns op d a b imm h with
  |false=>
   go_wp2;go_ret;exact⟨ret_bool (by simp[stOK,hi]),HB.out⟩
  |true=>
   have HI:Hid (implIns op d a b imm h=true):=hi;clear hi;go_wp2;go_ret;exact⟨ret_bool (by simp[stOK,HI.out]),HB.out⟩
 ·have HZ:Hid (stOK ⟨1,op,d,a,b,imm,h,cond,thn,els,proc⟩ procs=false):=(by simp[stOK];intros;omega:stOK ⟨1,op,d,a,b,imm,h,cond,thn,els,proc⟩ procs=false)
  go_enter Try.func49,Try.ntmps49;go_wp2_with fail;all_goals first|(go_ret;exact⟨ret_bool HZ.out.symm,(Below.refl _ _).alloc (Nat.le_refl _) _⟩)|(exfalso;omega)
theorem validStmt_2(op d a b imm h cond thn els proc procs:Int)(w:World):
 Calls Try.prog 49 #[.agg #[.int .i64 2,.int .i64 op,.int .i64 d,.int .i64 a,.int .i64 b,.int .i64 imm,.int .i64 h,.int .i64 cond,.int .i64 thn,.int .i64 els,.int .i64 proc],.int .i64 procs] w fun e w'=>e=.returned (.bool (stOK ⟨2,op,d,a,b,imm,h,cond,thn,els,proc⟩ procs))/\Below w.heap.size w w':=by
 by_cases hz:op=0/\d=0/\a=0/\b=0/\imm=0/\h=0/\proc=0
 ·obtain⟨rfl,rfl,rfl,rfl,rfl,rfl,rfl⟩:=hz
  go_enter Try.func49,Try.ntmps49;go_wp2_with(go_at_call 62;refine(validCond_any _ _).mono ?_;rintro e w'⟨rfl,rfl⟩);all_goals(go_ret;refine⟨ret_bool ?_,(Below.refl _ _).alloc (Nat.le_refl _) _⟩;simp_all[stOK,noIns,condB]<;>omega)
 ·have HZ:Hid (stOK ⟨2,op,d,a,b,imm,h,cond,thn,els,proc⟩ procs=false):=(by rw[Bool.eq_false_iff];intro hx;apply hz;simp[stOK]at hx;omega:stOK ⟨2,op,d,a,b,imm,h,cond,thn,els,proc⟩ procs=false)
  go_enter Try.func49,Try.ntmps49;go_wp2_with fail;all_goals first|(go_ret;exact⟨ret_bool HZ.out.symm,(Below.refl _ _).alloc (Nat.le_refl _) _⟩)|(exfalso;omega)
theorem validStmt_3(op d a b imm h cond thn els proc procs:Int)(w:World):
 Calls Try.prog 49 #[.agg #[.int .i64 3,.int .i64 op,.int .i64 d,.int .i64 a,.int .i64 b,.int .i64 imm,.int .i64 h,.int .i64 cond,.int .i64 thn,.int .i64 els,.int .i64 proc],.int .i64 procs] w fun e w'=>e=.returned (.bool (stOK ⟨3,op,d,a,b,imm,h,cond,thn,els,proc⟩ procs))/\Below w.heap.size w w':=by
 by_cases hz:op=0/\d=0/\a=0/\b=0/\imm=0/\h=0/\els=0/\proc=0
 ·obtain⟨rfl,rfl,rfl,rfl,rfl,rfl,rfl,rfl⟩:=hz
  go_enter Try.func49,Try.ntmps49;go_wp2_with(go_at_call 62;refine(validCond_any _ _).mono ?_;rintro e w'⟨rfl,rfl⟩);all_goals(go_ret;refine⟨ret_bool ?_,(Below.refl _ _).alloc (Nat.le_refl _) _⟩;simp_all[stOK,noIns,condB]<;>omega)
 ·have HZ:Hid (stOK ⟨3,op,d,a,b,imm,h,cond,thn,els,proc⟩ procs=false):=(by rw[Bool.eq_false_iff];intro hx;apply hz;simp[stOK]at hx;omega:stOK ⟨3,op,d,a,b,imm,h,cond,thn,els,proc⟩ procs=false)
  go_enter Try.func49,Try.ntmps49;go_wp2_with fail;all_goals first|(go_ret;exact⟨ret_bool HZ.out.symm,(Below.refl _ _).alloc (Nat.le_refl _) _⟩)|(exfalso;omega)
theorem validStmt_4(op d a b imm h cond thn els proc procs:Int)(w:World):
 Calls Try.prog 49 #[.agg #[.int .i64 4,.int .i64 op,.int .i64 d,.int .i64 a,.int .i64 b,.int .i64 imm,.int .i64 h,.int .i64 cond,.int .i64 thn,.int .i64 els,.int .i64 proc],.int .i64 procs] w fun e w'=>e=.returned (.bool (stOK ⟨4,op,d,a,b,imm,h,cond,thn,els,proc⟩ procs))/\Below w.heap.size w w':=by
 by_cases hz:op=0/\d=0/\a=0/\b=0/\imm=0/\h=0/\cond=0/\thn=0/\els=0
 ·obtain⟨rfl,rfl,rfl,rfl,rfl,rfl,rfl,rfl,rfl⟩:=hz
  go_enter Try.func49,Try.ntmps49;go_wp2;all_goals(go_ret;refine⟨ret_bool ?_,(Below.refl _ _).alloc (Nat.le_refl _) _⟩;simp_all[stOK,noIns]<;>omega)
 ·have HZ:Hid (stOK ⟨4,op,d,a,b,imm,h,cond,thn,els,proc⟩ procs=false):=(by rw[Bool.eq_false_iff];intro hx;apply hz;simp[stOK]at hx;omega:stOK ⟨4,op,d,a,b,imm,h,cond,thn,els,proc⟩ procs=false)
  go_enter Try.func49,Try.ntmps49;go_wp2_with fail;all_goals first|(go_ret;exact⟨ret_bool HZ.out.symm,(Below.refl _ _).alloc (Nat.le_refl _) _⟩)|(exfalso;omega)
theorem l3Good_2(op d a b imm h cond thn els proc procs:Int)(w:World):
 Calls Try.prog 31 #[.agg #[.int .i64 2,.int .i64 op,.int .i64 d,.int .i64 a,.int .i64 b,.int .i64 imm,.int .i64 h,.int .i64 cond,.int .i64 thn,.int .i64 els,.int .i64 proc],.int .i64 procs] w fun e w'=>e=.returned (.bool (stOK ⟨2,op,d,a,b,imm,h,cond,thn,els,proc⟩ procs))/\Below w.heap.size w w':=by
 by_cases hz:op=0/\d=0/\a=0/\b=0/\imm=0/\h=0
 ·obtain⟨rfl,rfl,rfl,rfl,rfl,rfl⟩:=hz
  go_enter Try.func31,Try.ntmps31;go_wp2_with(go_at_call 36;refine(in_any _ _ _ _).mono ?_;rintro e w'⟨rfl,rfl⟩);all_goals(go_ret;refine⟨ret_bool ?_,(Below.refl _ _).alloc (Nat.le_refl _) _⟩;simp_all[stOK,noIns,inB]<;>first|omega|rfl|(rw[Bool.eq_iff_iff];simp;omega))
 ·have HZ:Hid (stOK ⟨2,op,d,a,b,imm,h,cond,thn,els,proc⟩ procs=false):=(by rw[Bool.eq_false_iff];intro hx;apply hz;simp[stOK]at hx;omega:stOK ⟨2,op,d,a,b,imm,h,cond,thn,els,proc⟩ procs=false)
  go_enter Try.func31,Try.ntmps31;go_wp2_with fail;all_goals first|(go_ret;exact⟨ret_bool HZ.out.symm,(Below.refl _ _).alloc (Nat.le_refl _) _⟩)|(exfalso;omega)
theorem l3Good_3(op d a b imm h cond thn els proc procs:Int)(w:World):
 Calls Try.prog 31 #[.agg #[.int .i64 3,.int .i64 op,.int .i64 d,.int .i64 a,.int .i64 b,.int .i64 imm,.int .i64 h,.int .i64 cond,.int .i64 thn,.int .i64 els,.int .i64 proc],.int .i64 procs] w fun e w'=>e=.returned (.bool (stOK ⟨3,op,d,a,b,imm,h,cond,thn,els,proc⟩ procs))/\Below w.heap.size w w':=by
 by_cases hz:op=0/\d=0/\a=0/\b=0/\imm=0/\h=0
 ·obtain⟨rfl,rfl,rfl,rfl,rfl,rfl⟩:=hz
  go_enter Try.func31,Try.ntmps31;go_wp2_with(go_at_call 36;refine(in_any _ _ _ _).mono ?_;rintro e w'⟨rfl,rfl⟩);all_goals(go_ret;refine⟨ret_bool ?_,(Below.refl _ _).alloc (Nat.le_refl _) _⟩;simp_all[stOK,noIns,inB]<;>first|omega|rfl|(rw[Bool.eq_iff_iff];simp;omega))
 ·have HZ:Hid (stOK ⟨3,op,d,a,b,imm,h,cond,thn,els,proc⟩ procs=false):=(by rw[Bool.eq_false_iff];intro hx;apply hz;simp[stOK]at hx;omega:stOK ⟨3,op,d,a,b,imm,h,cond,thn,els,proc⟩ procs=false)
  go_enter Try.func31,Try.ntmps31;go_wp2_with fail;all_goals first|(go_ret;exact⟨ret_bool HZ.out.symm,(Below.refl _ _).alloc (Nat.le_refl _) _⟩)|(exfalso;omega)
theorem l3Good_4(op d a b imm h cond thn els proc procs:Int)(w:World)(p0:0<=procs)(p1:procs<=1048576):
 Calls Try.prog 31 #[.agg #[.int .i64 4,.int .i64 op,.int .i64 d,.int .i64 a,.int .i64 b,.int .i64 imm,.int .i64 h,.int .i64 cond,.int .i64 thn,.int .i64 els,.int .i64 proc],.int .i64 procs] w fun e w'=>e=.returned (.bool (stOK ⟨4,op,d,a,b,imm,h,cond,thn,els,proc⟩ procs))/\Below w.heap.size w w':=by
 by_cases hz:op=0/\d=0/\a=0/\b=0/\imm=0/\h=0
 ·obtain⟨rfl,rfl,rfl,rfl,rfl,rfl⟩:=hz
  go_enter Try.func31,Try.ntmps31;go_wp2_with(go_at_call 36;refine(in_any _ _ _ _).mono ?_;rintro e w'⟨rfl,rfl⟩);all_goals(go_ret;refine⟨ret_bool ?_,(Below.refl _ _).alloc (Nat.le_refl _) _⟩;simp_all[stOK,noIns,inB]<;>first|omega|rfl|(rw[Bool.eq_iff_iff];simp;omega))
 ·have HZ:Hid (stOK ⟨4,op,d,a,b,imm,h,cond,thn,els,proc⟩ procs=false):=(by rw[Bool.eq_false_iff];intro hx;apply hz;simp[stOK]at hx;omega:stOK ⟨4,op,d,a,b,imm,h,cond,thn,els,proc⟩ procs=false)
  go_enter Try.func31,Try.ntmps31;go_wp2_with fail;all_goals first|(go_ret;exact⟨ret_bool HZ.out.symm,(Below.refl _ _).alloc (Nat.le_refl _) _⟩)|(exfalso;omega)
theorem l3Good_1(op d a b imm h cond thn els proc procs:Int)(w:World):
 Calls Try.prog 31 #[.agg #[.int .i64 1,.int .i64 op,.int .i64 d,.int .i64 a,.int .i64 b,.int .i64 imm,.int .i64 h,.int .i64 cond,.int .i64 thn,.int .i64 els,.int .i64 proc],.int .i64 procs] w fun e w'=>e=.returned (.bool (stOK ⟨1,op,d,a,b,imm,h,cond,thn,els,proc⟩ procs))/\Below w.heap.size w w':=by
 have h0:Below w.heap.size w (w.alloc (.cells #[.int .i64 1,.int .i64 op,.int .i64 d,.int .i64 a,.int .i64 b,.int .i64 imm,.int .i64 h,.int .i64 cond,.int .i64 thn,.int .i64 els,.int .i64 proc] 33)):=(Below.refl _ _).alloc (Nat.le_refl _) _;have H0:Hid (Below w.heap.size w (w.alloc (.cells #[.int .i64 1,.int .i64 op,.int .i64 d,.int .i64 a,.int .i64 b,.int .i64 imm,.int .i64 h,.int .i64 cond,.int .i64 thn,.int .i64 els,.int .i64 proc] 33))):=h0;clear h0;obtain⟨res,hres⟩:∃x,stOK ⟨1,op,d,a,b,imm,h,cond,thn,els,proc⟩ procs=x:=⟨_,rfl⟩
 rw[hres];have HR:Hid (stOK ⟨1,op,d,a,b,imm,h,cond,thn,els,proc⟩ procs=res):=hres;clear hres;go_enter Try.func31,Try.ntmps31;go_upto_region 1 with fail;obtain⟨u,hu,hcl⟩:∃x,w.alloc (.cells #[.int .i64 1,.int .i64 op,.int .i64 d,.int .i64 a,.int .i64 b,.int .i64 imm,.int .i64 h,.int .i64 cond,.int .i64 thn,.int .i64 els,.int .i64 proc] 33)=x/\Cl x w.heap.size [.int .i64 1,.int .i64 op,.int .i64 d,.int .i64 a,.int .i64 b,.int .i64 imm,.int .i64 h,.int .i64 cond,.int .i64 thn,.int .i64 els,.int .i64 proc]:=⟨_,rfl,Cl.new⟩
 rw[hu]at H0⊢;have CC:Hid (Cl u w.heap.size [.int .i64 1,.int .i64 op,.int .i64 d,.int .i64 a,.int .i64 b,.int .i64 imm,.int .i64 h,.int .i64 cond,.int .i64 thn,.int .i64 els,.int .i64 proc]):=hcl;clear hu hcl;have e0:u.cell? ⟨w.heap.size,0,none⟩=some (.int .i64 1):=CC.out.2 0 (by simp);have e1:u.cell? ⟨w.heap.size,1,none⟩=some (.int .i64 op):=CC.out.2 1 (by simp);have e2:u.cell? ⟨w.heap.size,2,none⟩=some (.int .i64 d):=CC.out.2 2 (by simp);have e3:u.cell? ⟨w.heap.size,3,none⟩=some (.int .i64 a):=CC.out.2 3 (by simp);have e4:u.cell? ⟨w.heap.size,4,none⟩=some (.int .i64 b):=CC.out.2 4 (by simp);have e5:u.cell? ⟨w.heap.size,5,none⟩=some (.int .i64 imm):=CC.out.2 5 (by simp);have e6:u.cell? ⟨w.heap.size,6,none⟩=some (.int .i64 h):=CC.out.2 6 (by simp);go_cut [0,5](fun _ s5 wx=>(∃t:Bool,s5=.bool t)/\wx=u)
 case first=>
  go_wp2_with fail;all_goals(go_meet;exact⟨⟨_,rfl⟩,rfl⟩)
 case rest=>
  obtain⟨⟨t,rfl⟩,hw⟩:=hcut;rw[hw];clear hw;go_wp2_with fail;refine(specIns_any op d a b imm h _).mono ?_;rintro e w1⟨rfl,hb⟩;have HB:Hid (Below w.heap.size w w1):=H0.out.trans (hb.mono H0.out.size);have C1:Hid (Cl w1 w.heap.size [.int .i64 1,.int .i64 op,.int .i64 d,.int .i64 a,.int .i64 b,.int .i64 imm,.int .i64 h,.int .i64 cond,.int .i64 thn,.int .i64 els,.int .i64 proc]):=CC.out.below hb;clear hb e0 e1 e2 e3 e4 e5 e6;have f1:w1.cell? ⟨w.heap.size,1,none⟩=some (.int .i64 op):=C1.out.2 1 (by simp);have f7:w1.cell? ⟨w.heap.size,7,none⟩=some (.int .i64 cond):=C1.out.2 7 (by simp);have f8:w1.cell? ⟨w.heap.size,8,none⟩=some (.int .i64 thn):=C1.out.2 8 (by simp);have f9:w1.cell? ⟨w.heap.size,9,none⟩=some (.int .i64 els):=C1.out.2 9 (by simp);have f10:w1.cell? ⟨w.heap.size,10,none⟩=some (.int .i64 proc):=C1.out.2 10 (by simp);cases hok:implIns op d a b imm h with
  |false=>
   go_wp2;go_ret;exact⟨ret_bool (by rw[<-HR.out];simp[stOK,hok]),HB.out⟩
  |true=>
   have HOK:Hid (implIns op d a b imm h=true):=hok;clear hok;go_wp2;all_goals(go_ret;refine⟨ret_bool ?_,HB.out⟩;rw[<-HR.out];simp_all[stOK,HOK.out]<;>first|omega|rfl)
theorem l3Good_0(op d a b imm h cond thn els proc procs k:Int)(w:World)(h1:k≠1)(h2:k≠2)(h3:k≠3)(h4:k≠4):
 Calls Try.prog 31 #[.agg #[.int .i64 k,.int .i64 op,.int .i64 d,.int .i64 a,.int .i64 b,.int .i64 imm,.int .i64 h,.int .i64 cond,.int .i64 thn,.int .i64 els,.int .i64 proc],.int .i64 procs] w fun e w'=>e=.returned (.bool (stOK ⟨k,op,d,a,b,imm,h,cond,thn,els,proc⟩ procs))/\Below w.heap.size w w':=by
 have HS:Hid (stOK ⟨k,op,d,a,b,imm,h,cond,thn,els,proc⟩ procs=false):=(by simp[stOK,h1,h2,h3,h4]:stOK ⟨k,op,d,a,b,imm,h,cond,thn,els,proc⟩ procs=false)
 go_enter Try.func31,Try.ntmps31;go_wp2;all_goals first|(go_ret;exact⟨ret_bool HS.out.symm,(Below.refl _ _).alloc (Nat.le_refl _) _⟩)|(exfalso;omega)
theorem l3Good_any(s:SV)(procs:Int)(w:World)(p0:0<=procs)(p1:procs<=1048576):
 Calls Try.prog 31 #[.agg #[.int .i64 s.k,.int .i64 s.op,.int .i64 s.d,.int .i64 s.a,.int .i64 s.b,.int .i64 s.imm,.int .i64 s.h,.int .i64 s.cond,.int .i64 s.thn,.int .i64 s.els,.int .i64 s.proc],.int .i64 procs] w fun e w'=>e=.returned (.bool (stOK s procs))/\Below w.heap.size w w':=by
 obtain⟨k,op,d,a,b,imm,h,cond,thn,els,proc⟩:=s;by_cases h1:k=1
 ·subst h1;exact l3Good_1 op d a b imm h cond thn els proc procs w
 ·by_cases h2:k=2
  ·subst h2;exact l3Good_2 op d a b imm h cond thn els proc procs w
  ·by_cases h3:k=3
   ·subst h3;exact l3Good_3 op d a b imm h cond thn els proc procs w
   ·by_cases h4:k=4
    ·subst h4;exact l3Good_4 op d a b imm h cond thn els proc procs w p0 p1
    ·exact l3Good_0 op d a b imm h cond thn els proc procs k w h1 h2 h3 h4
theorem validStmt_0(op d a b imm h cond thn els proc procs k:Int)(w:World)(h1:k≠1)(h2:k≠2)(h3:k≠3)(h4:k≠4):
 Calls Try.prog 49 #[.agg #[.int .i64 k,.int .i64 op,.int .i64 d,.int .i64 a,.int .i64 b,.int .i64 imm,.int .i64 h,.int .i64 cond,.int .i64 thn,.int .i64 els,.int .i64 proc],.int .i64 procs] w fun e w'=>e=.returned (.bool (stOK ⟨k,op,d,a,b,imm,h,cond,thn,els,proc⟩ procs))/\Below w.heap.size w w':=by
 have HS:Hid (stOK ⟨k,op,d,a,b,imm,h,cond,thn,els,proc⟩ procs=false):=(by simp[stOK,h1,h2,h3,h4]:stOK ⟨k,op,d,a,b,imm,h,cond,thn,els,proc⟩ procs=false)
 go_enter Try.func49,Try.ntmps49;go_wp2;all_goals first|(go_ret;exact⟨ret_bool HS.out.symm,(Below.refl _ _).alloc (Nat.le_refl _) _⟩)|(exfalso;omega)
theorem validStmt_any(s:SV)(procs:Int)(w:World):
 Calls Try.prog 49 #[.agg #[.int .i64 s.k,.int .i64 s.op,.int .i64 s.d,.int .i64 s.a,.int .i64 s.b,.int .i64 s.imm,.int .i64 s.h,.int .i64 s.cond,.int .i64 s.thn,.int .i64 s.els,.int .i64 s.proc],.int .i64 procs] w fun e w'=>e=.returned (.bool (stOK s procs))/\Below w.heap.size w w':=by
 obtain⟨k,op,d,a,b,imm,h,cond,thn,els,proc⟩:=s;by_cases h1:k=1
 ·subst h1;exact validStmt_1 op d a b imm h cond thn els proc procs w
 ·by_cases h2:k=2
  ·subst h2;exact validStmt_2 op d a b imm h cond thn els proc procs w
  ·by_cases h3:k=3
   ·subst h3;exact validStmt_3 op d a b imm h cond thn els proc procs w
   ·by_cases h4:k=4
    ·subst h4;exact validStmt_4 op d a b imm h cond thn els proc procs w
    ·exact validStmt_0 op d a b imm h cond thn els proc procs k w h1 h2 h3 h4
def stC(x:SV):Nat->Value
 |0=>.int .i64 x.k
 |1=>.int .i64 x.op
 |2=>.int .i64 x.d
 |3=>.int .i64 x.a
 |4=>.int .i64 x.b
 |5=>.int .i64 x.imm
 |6=>.int .i64 x.h
 |7=>.int .i64 x.cond
 |8=>.int .i64 x.thn
 |9=>.int .i64 x.els
 |_=>.int .i64 x.proc
def stF(L:Nat->SV)(i:Nat):Value:=stC (L (i/11)) (i%11)
theorem stF_at(L:Nat->SV)(k j:Nat)(hj:j<11):stF L (k*11+j)=stC (L k) j:=by
 unfold stF;rw[show(k*11+j)/11=k by omega,show(k*11+j)%11=j by omega]
theorem st_at{w:World}{b n:Nat}{L:Nat->SV}(h:Arr w b (n*11) (stF L))(k:Nat)(hk:k<n):w.cell? ⟨b,k*11,none⟩=some (.int .i64 (L k).k)/\w.cell? ⟨b,k*11+1,none⟩=some (.int .i64 (L k).op)/\w.cell? ⟨b,k*11+2,none⟩=some (.int .i64 (L k).d)/\w.cell? ⟨b,k*11+3,none⟩=some (.int .i64 (L k).a)/\w.cell? ⟨b,k*11+4,none⟩=some (.int .i64 (L k).b)/\w.cell? ⟨b,k*11+5,none⟩=some (.int .i64 (L k).imm)/\w.cell? ⟨b,k*11+6,none⟩=some (.int .i64 (L k).h)/\w.cell? ⟨b,k*11+7,none⟩=some (.int .i64 (L k).cond)/\w.cell? ⟨b,k*11+8,none⟩=some (.int .i64 (L k).thn)/\w.cell? ⟨b,k*11+9,none⟩=some (.int .i64 (L k).els)/\w.cell? ⟨b,k*11+10,none⟩=some (.int .i64 (L k).proc):=
 ⟨(h.cell (i:=k*11+0) (by omega)).trans (congrArg some (stF_at L k 0 (by omega))),(h.cell (i:=k*11+1) (by omega)).trans (congrArg some (stF_at L k 1 (by omega))),(h.cell (i:=k*11+2) (by omega)).trans (congrArg some (stF_at L k 2 (by omega))),(h.cell (i:=k*11+3) (by omega)).trans (congrArg some (stF_at L k 3 (by omega))),(h.cell (i:=k*11+4) (by omega)).trans (congrArg some (stF_at L k 4 (by omega))),(h.cell (i:=k*11+5) (by omega)).trans (congrArg some (stF_at L k 5 (by omega))),(h.cell (i:=k*11+6) (by omega)).trans (congrArg some (stF_at L k 6 (by omega))),(h.cell (i:=k*11+7) (by omega)).trans (congrArg some (stF_at L k 7 (by omega))),(h.cell (i:=k*11+8) (by omega)).trans (congrArg some (stF_at L k 8 (by omega))),(h.cell (i:=k*11+9) (by omega)).trans (congrArg some (stF_at L k 9 (by omega))),(h.cell (i:=k*11+10) (by omega)).trans (congrArg some (stF_at L k 10 (by omega)))⟩
theorem st_cl{w:World}{b:Nat}{s:SV}(h:Cl w b [.int .i64 s.k,.int .i64 s.op,.int .i64 s.d,.int .i64 s.a,.int .i64 s.b,.int .i64 s.imm,.int .i64 s.h,.int .i64 s.cond,.int .i64 s.thn,.int .i64 s.els,.int .i64 s.proc]):w.cell? ⟨b,0,none⟩=some (.int .i64 s.k)/\w.cell? ⟨b,1,none⟩=some (.int .i64 s.op)/\w.cell? ⟨b,2,none⟩=some (.int .i64 s.d)/\w.cell? ⟨b,3,none⟩=some (.int .i64 s.a)/\w.cell? ⟨b,4,none⟩=some (.int .i64 s.b)/\w.cell? ⟨b,5,none⟩=some (.int .i64 s.imm)/\w.cell? ⟨b,6,none⟩=some (.int .i64 s.h)/\w.cell? ⟨b,7,none⟩=some (.int .i64 s.cond)/\w.cell? ⟨b,8,none⟩=some (.int .i64 s.thn)/\w.cell? ⟨b,9,none⟩=some (.int .i64 s.els)/\w.cell? ⟨b,10,none⟩=some (.int .i64 s.proc):=
 ⟨h.2 0 (by simp),h.2 1 (by simp),h.2 2 (by simp),h.2 3 (by simp),h.2 4 (by simp),h.2 5 (by simp),h.2 6 (by simp),h.2 7 (by simp),h.2 8 (by simp),h.2 9 (by simp),h.2 10 (by simp)⟩
theorem st_pos{s:SV}{procs:Int}(h:stOK s procs=true):0<=s.thn/\0<=s.els:=by
 unfold stOK at h;split at h
 ·simp at h;omega
 ·split at h
  ·simp at h;omega
  ·split at h
   ·simp at h;omega
   ·split at h
    ·simp at h;omega
    ·cases h
def chk(L:Nat->SV)(me procs deep:Int)(i te:Nat)(depth:Int):Int×Int:=
 if _h:i<te then
  if stOK (L i) procs=false then(2,i)
  else if hs:i+1+(L i).thn.toNat+(L i).els.toNat<=te then
   if((L i).k=2∨(L i).k=3)/\deep<=depth then(4,i)
   else if(L i).k=4/\(L i).proc<=me then(5,i)
   else if(chk L me procs deep (i+1) (i+1+(L i).thn.toNat) (depth+1)).1≠0 then chk L me procs deep (i+1) (i+1+(L i).thn.toNat) (depth+1)
   else if(chk L me procs deep (i+1+(L i).thn.toNat) (i+1+(L i).thn.toNat+(L i).els.toNat) (depth+1)).1≠0 then chk L me procs deep (i+1+(L i).thn.toNat) (i+1+(L i).thn.toNat+(L i).els.toNat) (depth+1)
   else chk L me procs deep (i+1+(L i).thn.toNat+(L i).els.toNat) te depth
  else(3,i)
 else(0,0)
theorem chk_end{L:Nat->SV}{me procs deep depth:Int}{i te:Nat}(h:¬i<te):chk L me procs deep i te depth=(0,0):=by rw[chk,dif_neg h]
theorem chk_bad{L:Nat->SV}{me procs deep depth:Int}{i te:Nat}(h:i<te)(h1:stOK (L i) procs=false):chk L me procs deep i te depth=(2,(i:Int)):=by rw[chk,dif_pos h,if_pos h1]
theorem chk_shape{L:Nat->SV}{me procs deep depth:Int}{i te:Nat}(h:i<te)(h1:¬stOK (L i) procs=false)(h2:¬i+1+(L i).thn.toNat+(L i).els.toNat<=te):chk L me procs deep i te depth=(3,(i:Int)):=by rw[chk,dif_pos h,if_neg h1,dif_neg h2]
theorem chk_deep{L:Nat->SV}{me procs deep depth:Int}{i te:Nat}(h:i<te)(h1:¬stOK (L i) procs=false)(h2:i+1+(L i).thn.toNat+(L i).els.toNat<=te)(h3:((L i).k=2∨(L i).k=3)/\deep<=depth):chk L me procs deep i te depth=(4,(i:Int)):=by rw[chk,dif_pos h,if_neg h1,dif_pos h2,if_pos h3]
theorem chk_rec{L:Nat->SV}{me procs deep depth:Int}{i te:Nat}(h:i<te)(h1:¬stOK (L i) procs=false)(h2:i+1+(L i).thn.toNat+(L i).els.toNat<=te)(h3:¬(((L i).k=2∨(L i).k=3)/\deep<=depth))(h4:(L i).k=4/\(L i).proc<=me):chk L me procs deep i te depth=(5,(i:Int)):=by rw[chk,dif_pos h,if_neg h1,dif_pos h2,if_neg h3,if_pos h4]
theorem chk_then{L:Nat->SV}{me procs deep depth:Int}{i te:Nat}(h:i<te)(h1:¬stOK (L i) procs=false)(h2:i+1+(L i).thn.toNat+(L i).els.toNat<=te)(h3:¬(((L i).k=2∨(L i).k=3)/\deep<=depth))(h4:¬((L i).k=4/\(L i).proc<=me)):chk L me procs deep i te depth=if(chk L me procs deep (i+1) (i+1+(L i).thn.toNat) (depth+1)).1≠0 then chk L me procs deep (i+1) (i+1+(L i).thn.toNat) (depth+1)
 else if(chk L me procs deep (i+1+(L i).thn.toNat) (i+1+(L i).thn.toNat+(L i).els.toNat) (depth+1)).1≠0 then chk L me procs deep (i+1+(L i).thn.toNat) (i+1+(L i).thn.toNat+(L i).els.toNat) (depth+1)
 else chk L me procs deep (i+1+(L i).thn.toNat+(L i).els.toNat) te depth:=by rw[chk,dif_pos h,if_neg h1,dif_pos h2,if_neg h3,if_neg h4]
theorem l3Block_any(b n cap:Nat)(L:Nat->SV)(me procs deep:Int)(ln:n<=1048576)(p0:0<=procs)(p1:procs<=1048576):∀(m i te:Nat)(depth:Int)(w:World),te-i<=m->i<=te->te<=n->0<=depth->depth+m<=1099511627776->Arr w b (n*11) (stF L)->
 Calls Try.prog 17 #[.slice (some ⟨b,0,none⟩) n cap,.int .i64 (i:Int),.int .i64 (te:Int),.int .i64 me,.int .i64 procs,.int .i64 depth,.int .i64 deep] w fun e w'=>e=.returned (.tuple #[.int .i64 (chk L me procs deep i te depth).1,.int .i64 (chk L me procs deep i te depth).2])/\Below w.heap.size w w':=by
 intro m;induction m using Nat.strongRecOn with
 |ind m ih=>
 intro i te depth w hm hit htn d0 d1 hA;have HA:Hid (Arr w b (n*11) (stF L)):=hA;have IH:Hid _:=ih;clear hA ih;obtain⟨res,hres⟩:∃x,chk L me procs deep i te depth=x:=⟨_,rfl⟩
 rw[hres];have HR:Hid (chk L me procs deep i te depth=res):=hres;clear hres;go_enter Try.func17,Try.ntmps17;go_wp2;go_loopw [16](fun iv wr=>∃j:Nat,i<=j/\j<=te/\iv=.int .i64 (j:Int)/\Below w.heap.size w wr/\chk L me procs deep j te depth=res)(fun iv _=>te-(intOf iv).toNat)
 case atStart=>exact⟨i,Nat.le_refl _,hit,rfl,Below.refl _ _,HR.out⟩
 case round=>
  obtain⟨j,hij,hjt,rfl,hbr,hcr⟩:=hrel;have HBR:Hid (Below w.heap.size w wr):=hbr;have HCR:Hid (chk L me procs deep j te depth=res):=hcr;clear hbr hcr;by_cases hlt:j<te
  rotate_left
  ·have hlt':¬(j:Int)<(te:Int):=by omega
   go_wp2;exact bodyPost_ret (v:=.tuple #[.int .i64 0,.int .i64 0]) (by simp[results,Try.results17,go_sem]) rfl ⟨by rw[<-HCR.out,chk_end hlt],HBR.out⟩
  have hlt':(j:Int)<(te:Int):=by omega
  have hjn:(j:Int)<(n:Int):=by omega
  have HAR:Hid (Arr wr b (n*11) (stF L)):=HA.out.below HBR.out HA.out.lt;obtain⟨s0,s1,s2,s3,s4,s5,s6,s7,s8,s9,s10⟩:=st_at HAR.out j (by omega);go_wp2_with fail;obtain⟨u,hu,hb0,hc0⟩:∃v,wr.alloc (.cells #[.int .i64 (L j).k,.int .i64 (L j).op,.int .i64 (L j).d,.int .i64 (L j).a,.int .i64 (L j).b,.int .i64 (L j).imm,.int .i64 (L j).h,.int .i64 (L j).cond,.int .i64 (L j).thn,.int .i64 (L j).els,.int .i64 (L j).proc] 33)=v/\Below wr.heap.size wr v/\Cl v wr.heap.size [.int .i64 (L j).k,.int .i64 (L j).op,.int .i64 (L j).d,.int .i64 (L j).a,.int .i64 (L j).b,.int .i64 (L j).imm,.int .i64 (L j).h,.int .i64 (L j).cond,.int .i64 (L j).thn,.int .i64 (L j).els,.int .i64 (L j).proc]:=⟨_,rfl,(Below.refl _ _).alloc (Nat.le_refl _) _,Cl.new⟩
  rw[hu];have B0:Hid (Below w.heap.size w u):=HBR.out.trans (hb0.mono HBR.out.size);have C0:Hid (Cl u wr.heap.size [.int .i64 (L j).k,.int .i64 (L j).op,.int .i64 (L j).d,.int .i64 (L j).a,.int .i64 (L j).b,.int .i64 (L j).imm,.int .i64 (L j).h,.int .i64 (L j).cond,.int .i64 (L j).thn,.int .i64 (L j).els,.int .i64 (L j).proc]):=hc0;clear hu hb0 hc0 s0 s1 s2 s3 s4 s5 s6 s7 s8 s9 s10;generalize wr.heap.size=nb at *;refine(l3Good_any (L j) procs _ p0 p1).mono ?_;rintro e u1⟨rfl,hb⟩;have B1:Hid (Below w.heap.size w u1):=B0.out.trans (hb.mono B0.out.size);have C1:Hid (Cl u1 nb [.int .i64 (L j).k,.int .i64 (L j).op,.int .i64 (L j).d,.int .i64 (L j).a,.int .i64 (L j).b,.int .i64 (L j).imm,.int .i64 (L j).h,.int .i64 (L j).cond,.int .i64 (L j).thn,.int .i64 (L j).els,.int .i64 (L j).proc]):=C0.out.below hb;clear hb B0 C0;cases hok:stOK (L j) procs with
  |false=>
   have HOK:Hid (stOK (L j) procs=false):=hok;clear hok;go_wp2;exact bodyPost_ret (v:=.tuple #[.int .i64 2,.int .i64 (j:Int)]) (by simp[results,Try.results17,go_sem]) rfl ⟨by rw[<-HCR.out,chk_bad hlt HOK.out],B1.out⟩
  |true=>
  obtain⟨tp,ep⟩:=st_pos hok;have HOK:Hid (¬stOK (L j) procs=false):=(by simp[hok]:¬stOK (L j) procs=false)
  clear hok;obtain⟨a,ha⟩:∃x:Nat,(L j).thn=(x:Int):=⟨(L j).thn.toNat,by omega⟩
  obtain⟨c,hc⟩:∃x:Nat,(L j).els=(x:Int):=⟨(L j).els.toNat,by omega⟩
  have HTA:Hid ((L j).thn.toNat=a):=(by omega:(L j).thn.toNat=a)
  have HTC:Hid ((L j).els.toNat=c):=(by omega:(L j).els.toNat=c)
  obtain⟨c0,c1,c2,c3,c4,c5,c6,c7,c8,c9,c10⟩:=st_cl C1.out;have zl:=C1.out.1;rw[ha]at c8;rw[hc]at c9;have HA8:Hid ((L j).thn=(a:Int)):=ha;have HC9:Hid ((L j).els=(c:Int)):=hc;clear ha hc tp ep;by_cases hs:j+1+a+c<=te
  rotate_left
  ·have HS:Hid (¬j+1+(L j).thn.toNat+(L j).els.toNat<=te):=(by rw[HTA.out,HTC.out];exact hs:¬j+1+(L j).thn.toNat+(L j).els.toNat<=te)
   by_cases h1:(a:Int)>(te:Int)-(j:Int)-1
   ·have e1:decide ((te:Int)-(j:Int)-1<(a:Int))=true:=by simp;omega
    go_wp2;exact bodyPost_ret (v:=.tuple #[.int .i64 3,.int .i64 (j:Int)]) (by simp[results,Try.results17,go_sem]) rfl ⟨by rw[<-HCR.out,chk_shape hlt HOK.out HS.out],B1.out⟩
   ·have e1:decide ((te:Int)-(j:Int)-1<(a:Int))=false:=by simp;omega
    have e2:decide ((te:Int)-(j:Int)-1-(a:Int)<(c:Int))=true:=by simp;omega
    go_wp2;exact bodyPost_ret (v:=.tuple #[.int .i64 3,.int .i64 (j:Int)]) (by simp[results,Try.results17,go_sem]) rfl ⟨by rw[<-HCR.out,chk_shape hlt HOK.out HS.out],B1.out⟩
  have HS:Hid (j+1+(L j).thn.toNat+(L j).els.toNat<=te):=(by rw[HTA.out,HTC.out];exact hs:j+1+(L j).thn.toNat+(L j).els.toNat<=te)
  have e1:decide ((te:Int)-(j:Int)-1<(a:Int))=false:=by simp;omega
  have e2:decide ((te:Int)-(j:Int)-1-(a:Int)<(c:Int))=false:=by simp;omega
  by_cases h3:((L j).k=2∨(L j).k=3)/\deep<=depth
  ·have H3:Hid (((L j).k=2∨(L j).k=3)/\deep<=depth):=h3
   have e4:decide (deep<=depth)=true:=by simp;omega
   by_cases h2:(L j).k=2
   ·have e3:((L j).k==2)=true:=by simp[h2]
    clear h3 h2;go_wp2;exact bodyPost_ret (v:=.tuple #[.int .i64 4,.int .i64 (j:Int)]) (by simp[results,Try.results17,go_sem]) rfl ⟨by rw[<-HCR.out,chk_deep hlt HOK.out HS.out H3.out],B1.out⟩
   ·have e3:((L j).k==2)=false:=by simp[h2]
    have e5:((L j).k==3)=true:=by rcases h3.1 with q|q<;>simp_all
    clear h3 h2;go_wp2;exact bodyPost_ret (v:=.tuple #[.int .i64 4,.int .i64 (j:Int)]) (by simp[results,Try.results17,go_sem]) rfl ⟨by rw[<-HCR.out,chk_deep hlt HOK.out HS.out H3.out],B1.out⟩
  have H3:Hid (¬(((L j).k=2∨(L j).k=3)/\deep<=depth)):=h3;clear h3;go_upto_region 9 with fail;go_cut [64](fun s64 wx=>s64=.bool false/\wx=u1)
  case first=>
   by_cases h2:(L j).k=2
   ·have e3:((L j).k==2)=true:=by simp[h2]
    have e4:decide (deep<=depth)=false:=by have:=H3.out;simp;omega
    clear h2;go_wp2_with fail;go_meet;exact⟨rfl,rfl⟩
   ·have e3:((L j).k==2)=false:=by simp[h2]
    by_cases h5:(L j).k=3
    ·have e5:((L j).k==3)=true:=by simp[h5]
     have e4:decide (deep<=depth)=false:=by have:=H3.out;simp;omega
     clear h2 h5;go_wp2_with fail;go_meet;exact⟨rfl,rfl⟩
    ·have e5:((L j).k==3)=false:=by simp[h5]
     clear h2 h5;go_wp2_with fail;go_meet;exact⟨rfl,rfl⟩
  case rest=>
   obtain⟨rfl,hw⟩:=hcut;rw[hw];clear hw;clear e1 e2;by_cases h4:(L j).k=4/\(L j).proc<=me
   ·have H4:Hid ((L j).k=4/\(L j).proc<=me):=h4
    have e6:((L j).k==4)=true:=by simp[h4.1]
    have e7:decide ((L j).proc<=me)=true:=by simp[h4.2]
    clear h4;go_wp2;exact bodyPost_ret (v:=.tuple #[.int .i64 5,.int .i64 (j:Int)]) (by simp[results,Try.results17,go_sem]) rfl ⟨by rw[<-HCR.out,chk_rec hlt HOK.out HS.out H3.out H4.out],B1.out⟩
   have H4:Hid (¬((L j).k=4/\(L j).proc<=me)):=h4;clear h4;go_upto_region 11 with fail;go_cut [74](fun s74 wx=>s74=.bool false/\wx=u1)
   case first=>
    by_cases h2:(L j).k=4
    ·have e6:((L j).k==4)=true:=by simp[h2]
     have e7:decide ((L j).proc<=me)=false:=by have:=H4.out;simp;omega
     clear h2;go_wp2_with fail;go_meet;exact⟨rfl,rfl⟩
    ·have e6:((L j).k==4)=false:=by simp[h2]
     clear h2;go_wp2_with fail;go_meet;exact⟨rfl,rfl⟩
   case rest=>
    obtain⟨rfl,hw⟩:=hcut;rw[hw];clear hw;go_wp2_with fail;have hcall:=IH.out (te-j-1) (by omega) (j+1) (j+1+a) (depth+1) u1 (by omega) (by omega) (by omega) (by omega) (by omega) (HA.out.below B1.out HA.out.lt);rw[show((j+1:Nat):Int)=(j:Int)+1 by omega,show((j+1+a:Nat):Int)=(j:Int)+1+(a:Int)by omega]at hcall;refine hcall.mono ?_;clear hcall;rintro e u2⟨rfl,hb⟩;have B2:Hid (Below w.heap.size w u2):=B1.out.trans (hb.mono B1.out.size);have C2:Hid (Cl u2 nb [.int .i64 (L j).k,.int .i64 (L j).op,.int .i64 (L j).d,.int .i64 (L j).a,.int .i64 (L j).b,.int .i64 (L j).imm,.int .i64 (L j).h,.int .i64 (L j).cond,.int .i64 (L j).thn,.int .i64 (L j).els,.int .i64 (L j).proc]):=C1.out.below hb;clear hb C1;clear c0 c1 c2 c3 c4 c5 c6 c7 c8 c9 c10 zl;obtain⟨r1,hr1⟩:∃x,chk L me procs deep (j+1) (j+1+a) (depth+1)=x:=⟨_,rfl⟩
    rw[hr1];have HR1:Hid (chk L me procs deep (j+1) (j+1+(L j).thn.toNat) (depth+1)=r1):=(by rw[HTA.out];exact hr1:chk L me procs deep (j+1) (j+1+(L j).thn.toNat) (depth+1)=r1)
    clear hr1;have HT:=chk_then hlt HOK.out HS.out H3.out H4.out;rw[HR1.out]at HT;have HTT:Hid _:=HT;clear HT;obtain⟨c0,c1,c2,c3,c4,c5,c6,c7,c8,c9,c10⟩:=st_cl C2.out;have zl:=C2.out.1;rw[HA8.out]at c8;rw[HC9.out]at c9;by_cases z1:r1.1=0
    rotate_left
    ·have e8:(r1.1==0)=false:=by simp[z1]
     have e9:(r1.1 !=0)=true:=by simp[z1]
     have Z1:Hid (r1.1≠0):=z1;clear z1;go_wp2;exact bodyPost_ret (v:=.tuple #[.int .i64 r1.1,.int .i64 r1.2]) (by simp[results,Try.results17,go_sem]) rfl ⟨by rw[<-HCR.out,HTT.out,if_pos Z1.out],B2.out⟩
    have e8:(r1.1==0)=true:=by simp[z1]
    have Z1:Hid (¬r1.1≠0):=(by simp[z1]:¬r1.1≠0)
    clear z1;go_wp2_with fail;have hcall:=IH.out (te-j-1) (by omega) (j+1+a) (j+1+a+c) (depth+1) u2 (by omega) (by omega) (by omega) (by omega) (by omega) (HA.out.below B2.out HA.out.lt);rw[show((j+1+a:Nat):Int)=(j:Int)+1+(a:Int)by omega,show((j+1+a+c:Nat):Int)=(j:Int)+1+(a:Int)+(c:Int)by omega]at hcall;refine hcall.mono ?_;clear hcall;rintro e u3⟨rfl,hb⟩;have B3:Hid (Below w.heap.size w u3):=B2.out.trans (hb.mono B2.out.size);have C3:Hid (Cl u3 nb [.int .i64 (L j).k,.int .i64 (L j).op,.int .i64 (L j).d,.int .i64 (L j).a,.int .i64 (L j).b,.int .i64 (L j).imm,.int .i64 (L j).h,.int .i64 (L j).cond,.int .i64 (L j).thn,.int .i64 (L j).els,.int .i64 (L j).proc]):=C2.out.below hb;clear hb C2;clear c0 c1 c2 c3 c4 c5 c6 c7 c8 c9 c10 zl;obtain⟨r2,hr2⟩:∃x,chk L me procs deep (j+1+a) (j+1+a+c) (depth+1)=x:=⟨_,rfl⟩
    rw[hr2];have HR2:Hid (chk L me procs deep (j+1+(L j).thn.toNat) (j+1+(L j).thn.toNat+(L j).els.toNat) (depth+1)=r2):=(by rw[HTA.out,HTC.out];exact hr2:chk L me procs deep (j+1+(L j).thn.toNat) (j+1+(L j).thn.toNat+(L j).els.toNat) (depth+1)=r2)
    clear hr2 e8;obtain⟨c0,c1,c2,c3,c4,c5,c6,c7,c8,c9,c10⟩:=st_cl C3.out;have zl:=C3.out.1;rw[HA8.out]at c8;rw[HC9.out]at c9;by_cases z2:r2.1=0
    rotate_left
    ·have e9:(r2.1 !=0)=true:=by simp[z2]
     have Z2:Hid (r2.1≠0):=z2;clear z2;go_wp2;exact bodyPost_ret (v:=.tuple #[.int .i64 r2.1,.int .i64 r2.2]) (by simp[results,Try.results17,go_sem]) rfl ⟨by rw[<-HCR.out,HTT.out,if_neg Z1.out,HR2.out,if_pos Z2.out],B3.out⟩
    have e9:(r2.1 !=0)=false:=by simp[z2]
    have Z2:Hid (¬r2.1≠0):=(by simp[z2]:¬r2.1≠0)
    clear z2;go_wp2;go_roundw
    case rel=>
     refine⟨j+1+a+c,by omega,by omega,by go_num,B3.out,?_⟩;rw[<-HCR.out,HTT.out,if_neg Z1.out,HR2.out,if_neg Z2.out,HTA.out,HTC.out]
    case measure=>simp[intOf];omega
end Go.Proofs.Ytplnpgohdgialaa
