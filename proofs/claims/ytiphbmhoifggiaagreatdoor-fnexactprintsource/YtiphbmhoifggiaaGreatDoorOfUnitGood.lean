import Derived.Test.YtiphbmhoifggiaaGreatDoorInsSame
import Derived.Test.YtiphbmhoifggiaaGreatDoorOfRegT
import Derived.Test.YtiphbmhoifggiaaGreatDoorRows
import Derived.Deep.RegionHeld3
import Derived.Deep.Cut
import Derived.Deep.DeepCutAuto
set_option maxHeartbeats 8000000
set_option maxRecDepth 20000
namespace Go.Proofs.YtiphbmhoifggiaaGreatDoor
open Go.RowKit
structure SV where
 k:Int
 op:Int
 d:Int
 a:Int
 b:Int
 imm:Int
 h:Int
 cond:Int
 thn:Int
 els:Int
 proc:Int
def condB(c:Int):Bool:=decide (1<=c/\c<=4)
abbrev noIns(s:SV):Prop:=s.op=0/\s.d=0/\s.a=0/\s.b=0/\s.imm=0/\s.h=0
def stOK(s:SV)(procs:Int):Bool:=
 if s.k=1 then implIns s.op s.d s.a s.b s.imm s.h&&decide (s.op<29/\s.cond=0/\s.thn=0/\s.els=0/\s.proc=0)
 else if s.k=2 then decide (noIns s/\1<=s.cond/\s.cond<=4/\0<=s.thn/\0<=s.els/\s.proc=0)
 else if s.k=3 then decide (noIns s/\1<=s.cond/\s.cond<=4/\0<=s.thn/\s.els=0/\s.proc=0)
 else if s.k=4 then decide (noIns s/\s.cond=0/\s.thn=0/\s.els=0/\0<=s.proc/\s.proc<procs)
 else false
theorem validCond_any(c:Int)(w:World):Calls Tryz.prog 106 #[.int .i64 c] w fun e w'=>e=.returned (.bool (condB c))/\w'=w:=by
 go_enter Tryz.func106,Tryz.ntmps106;go_wp2;all_goals(go_ret;refine⟨ret_bool ?_,rfl⟩;simp[condB]<;>omega)
theorem validStmt_1(op d a b imm h cond thn els proc procs:Int)(w:World):
 Calls Tryz.prog 92 #[.agg #[.int .i64 1,.int .i64 op,.int .i64 d,.int .i64 a,.int .i64 b,.int .i64 imm,.int .i64 h,.int .i64 cond,.int .i64 thn,.int .i64 els,.int .i64 proc],.int .i64 procs] w fun e w'=>e=.returned (.bool (stOK ⟨1,op,d,a,b,imm,h,cond,thn,els,proc⟩ procs))/\Below w.heap.size w w':=by
 have h0:Below w.heap.size w (w.alloc (.cells #[.int .i64 1,.int .i64 op,.int .i64 d,.int .i64 a,.int .i64 b,.int .i64 imm,.int .i64 h,.int .i64 cond,.int .i64 thn,.int .i64 els,.int .i64 proc] 99)):=(Below.refl _ _).alloc (Nat.le_refl _) _;have H0:Hid (Below w.heap.size w (w.alloc (.cells #[.int .i64 1,.int .i64 op,.int .i64 d,.int .i64 a,.int .i64 b,.int .i64 imm,.int .i64 h,.int .i64 cond,.int .i64 thn,.int .i64 els,.int .i64 proc] 99))):=h0;clear h0;by_cases hz:cond=0/\thn=0/\els=0/\proc=0
 ·obtain⟨rfl,rfl,rfl,rfl⟩:=hz
  go_enter Tryz.func92,Tryz.ntmps92;go_wp2_with fail;refine(implIns_any op d a b imm h _).mono ?_;rintro e w1⟨rfl,hb⟩;obtain⟨hc,_⟩:=bcell hb;have hz:=hb.size;have HB:Hid (Below w.heap.size w w1):=H0.out.trans (hb.mono H0.out.size);simp only[World.size_alloc]at hz hc;clear hb;cases hi:implIns op d a b imm h with
  |false=>
   go_wp2;go_ret;exact⟨ret_bool (by simp[stOK,hi]),HB.out⟩
  |true=>
   have HI:Hid (implIns op d a b imm h=true):=hi;clear hi;go_wp2;go_ret;exact⟨ret_bool (by simp[stOK,HI.out]),HB.out⟩
 ·have HZ:Hid (stOK ⟨1,op,d,a,b,imm,h,cond,thn,els,proc⟩ procs=false):=(by simp[stOK];intros;omega:stOK ⟨1,op,d,a,b,imm,h,cond,thn,els,proc⟩ procs=false)
  go_enter Tryz.func92,Tryz.ntmps92;go_wp2_with fail;all_goals first|(go_ret;exact⟨ret_bool HZ.out.symm,(Below.refl _ _).alloc (Nat.le_refl _) _⟩)|(exfalso;omega)
theorem validStmt_2(op d a b imm h cond thn els proc procs:Int)(w:World):
 Calls Tryz.prog 92 #[.agg #[.int .i64 2,.int .i64 op,.int .i64 d,.int .i64 a,.int .i64 b,.int .i64 imm,.int .i64 h,.int .i64 cond,.int .i64 thn,.int .i64 els,.int .i64 proc],.int .i64 procs] w fun e w'=>e=.returned (.bool (stOK ⟨2,op,d,a,b,imm,h,cond,thn,els,proc⟩ procs))/\Below w.heap.size w w':=by
 by_cases hz:op=0/\d=0/\a=0/\b=0/\imm=0/\h=0/\proc=0
 ·obtain⟨rfl,rfl,rfl,rfl,rfl,rfl,rfl⟩:=hz
  go_enter Tryz.func92,Tryz.ntmps92;go_wp2_with(go_at_call 106;refine(validCond_any _ _).mono ?_;rintro e w'⟨rfl,rfl⟩);all_goals(go_ret;refine⟨ret_bool ?_,(Below.refl _ _).alloc (Nat.le_refl _) _⟩;simp_all[stOK,noIns,condB]<;>omega)
 ·have HZ:Hid (stOK ⟨2,op,d,a,b,imm,h,cond,thn,els,proc⟩ procs=false):=(by rw[Bool.eq_false_iff];intro hx;apply hz;simp[stOK]at hx;omega:stOK ⟨2,op,d,a,b,imm,h,cond,thn,els,proc⟩ procs=false)
  go_enter Tryz.func92,Tryz.ntmps92;go_wp2_with fail;all_goals first|(go_ret;exact⟨ret_bool HZ.out.symm,(Below.refl _ _).alloc (Nat.le_refl _) _⟩)|(exfalso;omega)
theorem validStmt_3(op d a b imm h cond thn els proc procs:Int)(w:World):
 Calls Tryz.prog 92 #[.agg #[.int .i64 3,.int .i64 op,.int .i64 d,.int .i64 a,.int .i64 b,.int .i64 imm,.int .i64 h,.int .i64 cond,.int .i64 thn,.int .i64 els,.int .i64 proc],.int .i64 procs] w fun e w'=>e=.returned (.bool (stOK ⟨3,op,d,a,b,imm,h,cond,thn,els,proc⟩ procs))/\Below w.heap.size w w':=by
 by_cases hz:op=0/\d=0/\a=0/\b=0/\imm=0/\h=0/\els=0/\proc=0
 ·obtain⟨rfl,rfl,rfl,rfl,rfl,rfl,rfl,rfl⟩:=hz
  go_enter Tryz.func92,Tryz.ntmps92;go_wp2_with(go_at_call 106;refine(validCond_any _ _).mono ?_;rintro e w'⟨rfl,rfl⟩);all_goals(go_ret;refine⟨ret_bool ?_,(Below.refl _ _).alloc (Nat.le_refl _) _⟩;simp_all[stOK,noIns,condB]<;>omega)
 ·have HZ:Hid (stOK ⟨3,op,d,a,b,imm,h,cond,thn,els,proc⟩ procs=false):=(by rw[Bool.eq_false_iff];intro hx;apply hz;simp[stOK]at hx;omega:stOK ⟨3,op,d,a,b,imm,h,cond,thn,els,proc⟩ procs=false)
  go_enter Tryz.func92,Tryz.ntmps92;go_wp2_with fail;all_goals first|(go_ret;exact⟨ret_bool HZ.out.symm,(Below.refl _ _).alloc (Nat.le_refl _) _⟩)|(exfalso;omega)
theorem validStmt_4(op d a b imm h cond thn els proc procs:Int)(w:World):
 Calls Tryz.prog 92 #[.agg #[.int .i64 4,.int .i64 op,.int .i64 d,.int .i64 a,.int .i64 b,.int .i64 imm,.int .i64 h,.int .i64 cond,.int .i64 thn,.int .i64 els,.int .i64 proc],.int .i64 procs] w fun e w'=>e=.returned (.bool (stOK ⟨4,op,d,a,b,imm,h,cond,thn,els,proc⟩ procs))/\Below w.heap.size w w':=by
 by_cases hz:op=0/\d=0/\a=0/\b=0/\imm=0/\h=0/\cond=0/\thn=0/\els=0
 ·obtain⟨rfl,rfl,rfl,rfl,rfl,rfl,rfl,rfl,rfl⟩:=hz
  go_enter Tryz.func92,Tryz.ntmps92;go_wp2;all_goals(go_ret;refine⟨ret_bool ?_,(Below.refl _ _).alloc (Nat.le_refl _) _⟩;simp_all[stOK,noIns]<;>omega)
 ·have HZ:Hid (stOK ⟨4,op,d,a,b,imm,h,cond,thn,els,proc⟩ procs=false):=(by rw[Bool.eq_false_iff];intro hx;apply hz;simp[stOK]at hx;omega:stOK ⟨4,op,d,a,b,imm,h,cond,thn,els,proc⟩ procs=false)
  go_enter Tryz.func92,Tryz.ntmps92;go_wp2_with fail;all_goals first|(go_ret;exact⟨ret_bool HZ.out.symm,(Below.refl _ _).alloc (Nat.le_refl _) _⟩)|(exfalso;omega)
theorem l3Good_2(op d a b imm h cond thn els proc procs:Int)(w:World):
 Calls Tryz.prog 65 #[.agg #[.int .i64 2,.int .i64 op,.int .i64 d,.int .i64 a,.int .i64 b,.int .i64 imm,.int .i64 h,.int .i64 cond,.int .i64 thn,.int .i64 els,.int .i64 proc],.int .i64 procs] w fun e w'=>e=.returned (.bool (stOK ⟨2,op,d,a,b,imm,h,cond,thn,els,proc⟩ procs))/\Below w.heap.size w w':=by
 by_cases hz:op=0/\d=0/\a=0/\b=0/\imm=0/\h=0
 ·obtain⟨rfl,rfl,rfl,rfl,rfl,rfl⟩:=hz
  go_enter Tryz.func65,Tryz.ntmps65;go_wp2_with(go_at_call 15;refine(in_any _ _ _ _).mono ?_;rintro e w'⟨rfl,rfl⟩);all_goals(go_ret;refine⟨ret_bool ?_,(Below.refl _ _).alloc (Nat.le_refl _) _⟩;simp_all[stOK,noIns,inB]<;>first|omega|rfl|(rw[Bool.eq_iff_iff];simp;omega))
 ·have HZ:Hid (stOK ⟨2,op,d,a,b,imm,h,cond,thn,els,proc⟩ procs=false):=(by rw[Bool.eq_false_iff];intro hx;apply hz;simp[stOK]at hx;omega:stOK ⟨2,op,d,a,b,imm,h,cond,thn,els,proc⟩ procs=false)
  go_enter Tryz.func65,Tryz.ntmps65;go_wp2_with fail;all_goals first|(go_ret;exact⟨ret_bool HZ.out.symm,(Below.refl _ _).alloc (Nat.le_refl _) _⟩)|(exfalso;omega)
theorem l3Good_3(op d a b imm h cond thn els proc procs:Int)(w:World):
 Calls Tryz.prog 65 #[.agg #[.int .i64 3,.int .i64 op,.int .i64 d,.int .i64 a,.int .i64 b,.int .i64 imm,.int .i64 h,.int .i64 cond,.int .i64 thn,.int .i64 els,.int .i64 proc],.int .i64 procs] w fun e w'=>e=.returned (.bool (stOK ⟨3,op,d,a,b,imm,h,cond,thn,els,proc⟩ procs))/\Below w.heap.size w w':=by
 by_cases hz:op=0/\d=0/\a=0/\b=0/\imm=0/\h=0
 ·obtain⟨rfl,rfl,rfl,rfl,rfl,rfl⟩:=hz
  go_enter Tryz.func65,Tryz.ntmps65;go_wp2_with(go_at_call 15;refine(in_any _ _ _ _).mono ?_;rintro e w'⟨rfl,rfl⟩);all_goals(go_ret;refine⟨ret_bool ?_,(Below.refl _ _).alloc (Nat.le_refl _) _⟩;simp_all[stOK,noIns,inB]<;>first|omega|rfl|(rw[Bool.eq_iff_iff];simp;omega))
 ·have HZ:Hid (stOK ⟨3,op,d,a,b,imm,h,cond,thn,els,proc⟩ procs=false):=(by rw[Bool.eq_false_iff];intro hx;apply hz;simp[stOK]at hx;omega:stOK ⟨3,op,d,a,b,imm,h,cond,thn,els,proc⟩ procs=false)
  go_enter Tryz.func65,Tryz.ntmps65;go_wp2_with fail;all_goals first|(go_ret;exact⟨ret_bool HZ.out.symm,(Below.refl _ _).alloc (Nat.le_refl _) _⟩)|(exfalso;omega)
theorem l3Good_4(op d a b imm h cond thn els proc procs:Int)(w:World)(p0:0<=procs)(p1:procs<=1048576):
 Calls Tryz.prog 65 #[.agg #[.int .i64 4,.int .i64 op,.int .i64 d,.int .i64 a,.int .i64 b,.int .i64 imm,.int .i64 h,.int .i64 cond,.int .i64 thn,.int .i64 els,.int .i64 proc],.int .i64 procs] w fun e w'=>e=.returned (.bool (stOK ⟨4,op,d,a,b,imm,h,cond,thn,els,proc⟩ procs))/\Below w.heap.size w w':=by
 by_cases hz:op=0/\d=0/\a=0/\b=0/\imm=0/\h=0
 ·obtain⟨rfl,rfl,rfl,rfl,rfl,rfl⟩:=hz
  go_enter Tryz.func65,Tryz.ntmps65;go_wp2_with(go_at_call 15;refine(in_any _ _ _ _).mono ?_;rintro e w'⟨rfl,rfl⟩);all_goals(go_ret;refine⟨ret_bool ?_,(Below.refl _ _).alloc (Nat.le_refl _) _⟩;simp_all[stOK,noIns,inB]<;>first|omega|rfl|(rw[Bool.eq_iff_iff];simp;omega))
 ·have HZ:Hid (stOK ⟨4,op,d,a,b,imm,h,cond,thn,els,proc⟩ procs=false):=(by rw[Bool.eq_false_iff];intro hx;apply hz;simp[stOK]at hx;omega:stOK ⟨4,op,d,a,b,imm,h,cond,thn,els,proc⟩ procs=false)
  go_enter Tryz.func65,Tryz.ntmps65;go_wp2_with fail;all_goals first|(go_ret;exact⟨ret_bool HZ.out.symm,(Below.refl _ _).alloc (Nat.le_refl _) _⟩)|(exfalso;omega)
theorem l3Good_1(op d a b imm h cond thn els proc procs:Int)(w:World):
 Calls Tryz.prog 65 #[.agg #[.int .i64 1,.int .i64 op,.int .i64 d,.int .i64 a,.int .i64 b,.int .i64 imm,.int .i64 h,.int .i64 cond,.int .i64 thn,.int .i64 els,.int .i64 proc],.int .i64 procs] w fun e w'=>e=.returned (.bool (stOK ⟨1,op,d,a,b,imm,h,cond,thn,els,proc⟩ procs))/\Below w.heap.size w w':=by
 have h0:Below w.heap.size w (w.alloc (.cells #[.int .i64 1,.int .i64 op,.int .i64 d,.int .i64 a,.int .i64 b,.int .i64 imm,.int .i64 h,.int .i64 cond,.int .i64 thn,.int .i64 els,.int .i64 proc] 99)):=(Below.refl _ _).alloc (Nat.le_refl _) _;have H0:Hid (Below w.heap.size w (w.alloc (.cells #[.int .i64 1,.int .i64 op,.int .i64 d,.int .i64 a,.int .i64 b,.int .i64 imm,.int .i64 h,.int .i64 cond,.int .i64 thn,.int .i64 els,.int .i64 proc] 99))):=h0;clear h0;obtain⟨res,hres⟩:∃x,stOK ⟨1,op,d,a,b,imm,h,cond,thn,els,proc⟩ procs=x:=⟨_,rfl⟩
 rw[hres];have HR:Hid (stOK ⟨1,op,d,a,b,imm,h,cond,thn,els,proc⟩ procs=res):=hres;clear hres;go_enter Tryz.func65,Tryz.ntmps65;go_upto_region 1 with fail;obtain⟨u,hu,hcl⟩:∃x,w.alloc (.cells #[.int .i64 1,.int .i64 op,.int .i64 d,.int .i64 a,.int .i64 b,.int .i64 imm,.int .i64 h,.int .i64 cond,.int .i64 thn,.int .i64 els,.int .i64 proc] 99)=x/\Cl x w.heap.size [.int .i64 1,.int .i64 op,.int .i64 d,.int .i64 a,.int .i64 b,.int .i64 imm,.int .i64 h,.int .i64 cond,.int .i64 thn,.int .i64 els,.int .i64 proc]:=⟨_,rfl,Cl.new⟩
 rw[hu]at H0⊢;have CC:Hid (Cl u w.heap.size [.int .i64 1,.int .i64 op,.int .i64 d,.int .i64 a,.int .i64 b,.int .i64 imm,.int .i64 h,.int .i64 cond,.int .i64 thn,.int .i64 els,.int .i64 proc]):=hcl;clear hu hcl;have e0:u.cell? ⟨w.heap.size,0,none⟩=some (.int .i64 1):=CC.out.2 0 (by simp);have e1:u.cell? ⟨w.heap.size,1,none⟩=some (.int .i64 op):=CC.out.2 1 (by simp);have e2:u.cell? ⟨w.heap.size,2,none⟩=some (.int .i64 d):=CC.out.2 2 (by simp);have e3:u.cell? ⟨w.heap.size,3,none⟩=some (.int .i64 a):=CC.out.2 3 (by simp);have e4:u.cell? ⟨w.heap.size,4,none⟩=some (.int .i64 b):=CC.out.2 4 (by simp);have e5:u.cell? ⟨w.heap.size,5,none⟩=some (.int .i64 imm):=CC.out.2 5 (by simp);have e6:u.cell? ⟨w.heap.size,6,none⟩=some (.int .i64 h):=CC.out.2 6 (by simp);go_cut [0,5](fun _ s5 wx=>(∃t:Bool,s5=.bool t)/\wx=u)
 case first=>
  go_wp2_with fail;all_goals(go_meet;exact⟨⟨_,rfl⟩,rfl⟩)
 case rest=>
  obtain⟨⟨t,rfl⟩,hw⟩:=hcut;rw[hw];clear hw;go_wp2_with fail;refine(specIns_any op d a b imm h _).mono ?_;rintro e w1⟨rfl,hb⟩;have HB:Hid (Below w.heap.size w w1):=H0.out.trans (hb.mono H0.out.size);have C1:Hid (Cl w1 w.heap.size [.int .i64 1,.int .i64 op,.int .i64 d,.int .i64 a,.int .i64 b,.int .i64 imm,.int .i64 h,.int .i64 cond,.int .i64 thn,.int .i64 els,.int .i64 proc]):=CC.out.below hb;clear hb e0 e1 e2 e3 e4 e5 e6;have f1:w1.cell? ⟨w.heap.size,1,none⟩=some (.int .i64 op):=C1.out.2 1 (by simp);have f7:w1.cell? ⟨w.heap.size,7,none⟩=some (.int .i64 cond):=C1.out.2 7 (by simp);have f8:w1.cell? ⟨w.heap.size,8,none⟩=some (.int .i64 thn):=C1.out.2 8 (by simp);have f9:w1.cell? ⟨w.heap.size,9,none⟩=some (.int .i64 els):=C1.out.2 9 (by simp);have f10:w1.cell? ⟨w.heap.size,10,none⟩=some (.int .i64 proc):=C1.out.2 10 (by simp);cases hok:implIns op d a b imm h with
  |false=>
   go_wp2;go_ret;exact⟨ret_bool (by rw[<-HR.out];simp[stOK,hok]),HB.out⟩
  |true=>
   have HOK:Hid (implIns op d a b imm h=true):=hok;clear hok;go_wp2;all_goals(go_ret;refine⟨ret_bool ?_,HB.out⟩;rw[<-HR.out];simp_all[stOK,HOK.out]<;>first|omega|rfl)
theorem l3Good_0(op d a b imm h cond thn els proc procs k:Int)(w:World)(h1:k≠1)(h2:k≠2)(h3:k≠3)(h4:k≠4):
 Calls Tryz.prog 65 #[.agg #[.int .i64 k,.int .i64 op,.int .i64 d,.int .i64 a,.int .i64 b,.int .i64 imm,.int .i64 h,.int .i64 cond,.int .i64 thn,.int .i64 els,.int .i64 proc],.int .i64 procs] w fun e w'=>e=.returned (.bool (stOK ⟨k,op,d,a,b,imm,h,cond,thn,els,proc⟩ procs))/\Below w.heap.size w w':=by
 have HS:Hid (stOK ⟨k,op,d,a,b,imm,h,cond,thn,els,proc⟩ procs=false):=(by simp[stOK,h1,h2,h3,h4]:stOK ⟨k,op,d,a,b,imm,h,cond,thn,els,proc⟩ procs=false)
 go_enter Tryz.func65,Tryz.ntmps65;go_wp2;all_goals first|(go_ret;exact⟨ret_bool HS.out.symm,(Below.refl _ _).alloc (Nat.le_refl _) _⟩)|(exfalso;omega)
theorem l3Good_any(s:SV)(procs:Int)(w:World)(p0:0<=procs)(p1:procs<=1048576):
 Calls Tryz.prog 65 #[.agg #[.int .i64 s.k,.int .i64 s.op,.int .i64 s.d,.int .i64 s.a,.int .i64 s.b,.int .i64 s.imm,.int .i64 s.h,.int .i64 s.cond,.int .i64 s.thn,.int .i64 s.els,.int .i64 s.proc],.int .i64 procs] w fun e w'=>e=.returned (.bool (stOK s procs))/\Below w.heap.size w w':=by
 obtain⟨k,op,d,a,b,imm,h,cond,thn,els,proc⟩:=s;by_cases h1:k=1
 ·subst h1;exact l3Good_1 op d a b imm h cond thn els proc procs w
 ·by_cases h2:k=2
  ·subst h2;exact l3Good_2 op d a b imm h cond thn els proc procs w
  ·by_cases h3:k=3
   ·subst h3;exact l3Good_3 op d a b imm h cond thn els proc procs w
   ·by_cases h4:k=4
    ·subst h4;exact l3Good_4 op d a b imm h cond thn els proc procs w p0 p1
    ·exact l3Good_0 op d a b imm h cond thn els proc procs k w h1 h2 h3 h4
theorem validStmt_0(op d a b imm h cond thn els proc procs k:Int)(w:World)(h1:k≠1)(h2:k≠2)(h3:k≠3)(h4:k≠4):
 Calls Tryz.prog 92 #[.agg #[.int .i64 k,.int .i64 op,.int .i64 d,.int .i64 a,.int .i64 b,.int .i64 imm,.int .i64 h,.int .i64 cond,.int .i64 thn,.int .i64 els,.int .i64 proc],.int .i64 procs] w fun e w'=>e=.returned (.bool (stOK ⟨k,op,d,a,b,imm,h,cond,thn,els,proc⟩ procs))/\Below w.heap.size w w':=by
 have HS:Hid (stOK ⟨k,op,d,a,b,imm,h,cond,thn,els,proc⟩ procs=false):=(by simp[stOK,h1,h2,h3,h4]:stOK ⟨k,op,d,a,b,imm,h,cond,thn,els,proc⟩ procs=false)
 go_enter Tryz.func92,Tryz.ntmps92;go_wp2;all_goals first|(go_ret;exact⟨ret_bool HS.out.symm,(Below.refl _ _).alloc (Nat.le_refl _) _⟩)|(exfalso;omega)
theorem validStmt_any(s:SV)(procs:Int)(w:World):
 Calls Tryz.prog 92 #[.agg #[.int .i64 s.k,.int .i64 s.op,.int .i64 s.d,.int .i64 s.a,.int .i64 s.b,.int .i64 s.imm,.int .i64 s.h,.int .i64 s.cond,.int .i64 s.thn,.int .i64 s.els,.int .i64 s.proc],.int .i64 procs] w fun e w'=>e=.returned (.bool (stOK s procs))/\Below w.heap.size w w':=by
 obtain⟨k,op,d,a,b,imm,h,cond,thn,els,proc⟩:=s;by_cases h1:k=1
 ·subst h1;exact validStmt_1 op d a b imm h cond thn els proc procs w
 ·by_cases h2:k=2
  ·subst h2;exact validStmt_2 op d a b imm h cond thn els proc procs w
  ·by_cases h3:k=3
   ·subst h3;exact validStmt_3 op d a b imm h cond thn els proc procs w
   ·by_cases h4:k=4
    ·subst h4;exact validStmt_4 op d a b imm h cond thn els proc procs w
    ·exact validStmt_0 op d a b imm h cond thn els proc procs k w h1 h2 h3 h4
end Go.Proofs.YtiphbmhoifggiaaGreatDoor
