import Derived.Test.YtbahofiiaodpdaaGreatOfCl
import Derived.BigRegion
import Derived.Laws.Externs
import Derived.Deep.QuietTactic
import Derived.BigQuiet
import Derived.Recover
set_option maxHeartbeats 400000
namespace Go.Proofs.YtbahofiiaodpdaaGreat
open Go.RowKit
def wadd(x y c:Int):Int:=(x+y+c)%18446744073709551616
def carry(x y c:Int):Int:=(x+y+c)/18446744073709551616
def wsub(x y:Int):Int:=(x-y)%18446744073709551616
def borrow(x y:Int):Int:=if x<y then 1 else 0
theorem add64_run(x y c:Int)(hx:0<=x)(hy:0<=y)(hc0:0<=c)(hc:c<=1)(w:World):(callFunc 145 #[.int .u64 x,.int .u64 y,.int .u64 c]).run Tryz.prog w=
 .ok (.value (.tuple #[.int .u64 (wadd x y c),.int .u64 (carry x y c)])) w:=by
 rw[run_callFunc_extern Tryz.func145 (by kernel_rfl) (by kernel_rfl) (by kernel_rfl) (e:=add64Entry) (by kernel_rfl),run_add64 x y c hx hy hc0 hc w];rfl
theorem sub64_key(x y:Nat)(w:World):((Extern.MathBitsCarry.rows[1]'(by decide)).2 #[.int .u64 (x:Int),.int .u64 (y:Int),.int .u64 0]).run Tryz.prog w=
 .ok (Extern.MathBitsCarry.pair ((x+Extern.MathBitsCarry.m64-y-0)%Extern.MathBitsCarry.m64) (if x<y+0 then 1 else 0)) w:=rfl
theorem sub64_run(x y:Int)(hx:0<=x)(hy:0<=y)(hy1:y<=18446744073709551615)(w:World):(callFunc 147 #[.int .u64 x,.int .u64 y,.int .u64 0]).run Tryz.prog w=
 .ok (.value (.tuple #[.int .u64 (wsub x y),.int .u64 (borrow x y)])) w:=by
 obtain⟨X,rfl⟩:=Int.eq_ofNat_of_zero_le hx;obtain⟨Y,rfl⟩:=Int.eq_ofNat_of_zero_le hy;rw[run_callFunc_extern Tryz.func147 (by kernel_rfl) (by kernel_rfl) (by kernel_rfl) (e:=(Extern.MathBitsCarry.rows[1]'(by decide)).2) (by kernel_rfl),sub64_key];have e1:(Int.ofNat ((X+Extern.MathBitsCarry.m64-Y-0)%Extern.MathBitsCarry.m64))=((X:Int)-(Y:Int))%18446744073709551616:=by
  simp only[Extern.MathBitsCarry.m64];have:(2:Nat)^64=18446744073709551616:=by decide
  rw[this];simp only[Int.ofNat_eq_natCast];omega
 have e2:(Int.ofNat (if X<Y+0 then 1 else 0))=(if(X:Int)<(Y:Int)then 1 else 0):=by
  by_cases h:X<Y
  ·rw[if_pos (by omega),if_pos (by omega)];rfl
  ·rw[if_neg (by omega),if_neg (by omega)];rfl
 simp only[Extern.MathBitsCarry.pair,Result.andThen,e1,e2,wsub,borrow]
theorem defined_yes(f:Bool)(w:World):
 Calls Tryz.prog 140 #[.bool f,.bool true] w fun e w'=>e=.returned (.bool f)/\w'=w:=by
 go_enter Tryz.func140,Tryz.ntmps140;go_wp2;go_ret;exact⟨rfl,rfl⟩
theorem defined_no(f:Bool)(w:World):
 Calls Tryz.prog 140 #[.bool f,.bool false] w fun e w'=>e=.panicked [{v:=.iface 124 (.agg #[]),recovered:=false}]/\w'=w:=by
 go_enter Tryz.func140,Tryz.ntmps140;go_wp2;exact⟨rfl,rfl,rfl⟩
theorem setFlags_any(bC:Nat)(r k:Int)(z c hz hc:Bool)(w:World)(h1:w.cell? ⟨bC,1,none⟩=some (.bool z))(h2:w.cell? ⟨bC,2,none⟩=some (.bool c))(h3:w.cell? ⟨bC,3,none⟩=some (.bool hz))(h4:w.cell? ⟨bC,4,none⟩=some (.bool hc))
 (hf:∀i,w.frozen? ⟨bC,i,none⟩=false):
 Calls Tryz.prog 146 #[.pointer (some ⟨bC,0,none⟩),.int .u64 r,.int .u64 k] w fun e w'=>e=.returned (.tuple #[])/\
  w'=(((w.setCell ⟨bC,1,none⟩ (.bool (r==0))).setCell ⟨bC,3,none⟩ (.bool true)).setCell ⟨bC,2,none⟩ (.bool (k !=0))).setCell ⟨bC,4,none⟩ (.bool true):=by
 go_enter Tryz.func146,Tryz.ntmps146;go_wp2;go_end0;exact⟨rfl,rfl⟩
def flagged(w:World)(bC:Nat)(r k:Int):World:=
 (((w.setCell ⟨bC,1,none⟩ (.bool (r==0))).setCell ⟨bC,3,none⟩ (.bool true)).setCell ⟨bC,2,none⟩ (.bool (k !=0))).setCell ⟨bC,4,none⟩ (.bool true)
theorem compare_any(bC:Nat)(a b:Int)(z c hz hc:Bool)(w:World)(ha:0<=a)(hb:0<=b)(hb1:b<=18446744073709551615)(h1:w.cell? ⟨bC,1,none⟩=some (.bool z))(h2:w.cell? ⟨bC,2,none⟩=some (.bool c))(h3:w.cell? ⟨bC,3,none⟩=some (.bool hz))(h4:w.cell? ⟨bC,4,none⟩=some (.bool hc))
 (hf:∀i,w.frozen? ⟨bC,i,none⟩=false):
 Calls Tryz.prog 138 #[.pointer (some ⟨bC,0,none⟩),.int .u64 a,.int .u64 b] w fun e w'=>e=.returned (.int .u64 (wsub a b))/\w'=flagged w bC (wsub a b) (borrow a b):=by
 have hrun:=fun w=>sub64_run a b ha hb hb1 w
 have C:Hid _:=setFlags_any bC (wsub a b) (borrow a b) z c hz hc w h1 h2 h3 h4 hf;clear h1 h2 h3 h4 hf;go_enter Tryz.func138,Tryz.ntmps138;go_wp2_with fail;refine Calls.mono C.out ?_;rintro e w1⟨rfl,hw⟩;have HW:Hid (w1=flagged w bC (wsub a b) (borrow a b)):=hw;clear hw;go_wp2;go_ret;exact⟨rfl,HW.out⟩
theorem zero_yes(bC:Nat)(f:Bool)(w:World)(h1:w.cell? ⟨bC,1,none⟩=some (.bool f))(h3:w.cell? ⟨bC,3,none⟩=some (.bool true)):
 Calls Tryz.prog 121 #[.pointer (some ⟨bC,0,none⟩)] w fun e w'=>e=.returned (.bool f)/\Below w.heap.size w w':=by
 go_enter Tryz.func121,Tryz.ntmps121;go_wp2_with fail;go_quiet((go_at_call 140;exact Calls.quiet_of_same (defined_yes _ _)));go_wp2;go_ret;exact⟨rfl,below_drewN (Below.refl _ _) _⟩
theorem carry_yes(bC:Nat)(f:Bool)(w:World)(h1:w.cell? ⟨bC,2,none⟩=some (.bool f))(h3:w.cell? ⟨bC,4,none⟩=some (.bool true)):
 Calls Tryz.prog 122 #[.pointer (some ⟨bC,0,none⟩)] w fun e w'=>e=.returned (.bool f)/\Below w.heap.size w w':=by
 go_enter Tryz.func122,Tryz.ntmps122;go_wp2_with fail;go_quiet((go_at_call 140;exact Calls.quiet_of_same (defined_yes _ _)));go_wp2;go_ret;exact⟨rfl,below_drewN (Below.refl _ _) _⟩
theorem zero_no(bC:Nat)(f:Bool)(w:World)(hb:bC<w.heap.size)(h1:w.cell? ⟨bC,1,none⟩=some (.bool f))(h3:w.cell? ⟨bC,3,none⟩=some (.bool false)):
 Calls Tryz.prog 121 #[.pointer (some ⟨bC,0,none⟩)] w fun e w'=>e=.panicked [{v:=.iface 124 (.agg #[]),recovered:=false}]/\Below w.heap.size w w':=by
 have R1:∀w',Below w.heap.size w w'->w'.cell? ⟨bC,1,none⟩=some (.bool f):=fun w' h=>(h.cell (p:=⟨bC,1,none⟩) hb).trans h1
 have R3:∀w',Below w.heap.size w w'->w'.cell? ⟨bC,3,none⟩=some (.bool false):=fun w' h=>(h.cell (p:=⟨bC,3,none⟩) hb).trans h3
 go_enter Tryz.func121,Tryz.ntmps121;go_wp2_with fail;refine wp_region_L (T:=fun w'=>Below w.heap.size w w') (s:=11) (by kernel_rfl) ((Below.refl _ _).drew) (fun hHeld=>?_);refine wpAnyL_ta 0 rfl ?_;refine wpAnyL_ta 1 rfl ?_;refine wpAnyL_ta 2 rfl ?_;refine wpAnyL_ta 3 rfl ?_;refine wpAnyL_ta 4 rfl ?_;refine wpAnyL_ta 5 rfl ?_;refine wpAnyL_ta 6 rfl ?_;refine wpAnyL_ta 7 rfl ?_;refine wpAnyL_ta 8 rfl ?_;refine wpAnyL_ta 9 rfl ?_;refine wpAnyL_call (i:=10) rfl (by kernel_rfl) (fun K hK=>?_);go_simp;refine(defined_no _ _).mono ?_;rintro e w'⟨rfl,rfl⟩;exact⟨rfl,rfl,(Below.refl _ _).drew⟩
theorem carry_no(bC:Nat)(f:Bool)(w:World)(hb:bC<w.heap.size)(h1:w.cell? ⟨bC,2,none⟩=some (.bool f))(h3:w.cell? ⟨bC,4,none⟩=some (.bool false)):
 Calls Tryz.prog 122 #[.pointer (some ⟨bC,0,none⟩)] w fun e w'=>e=.panicked [{v:=.iface 124 (.agg #[]),recovered:=false}]/\Below w.heap.size w w':=by
 have R1:∀w',Below w.heap.size w w'->w'.cell? ⟨bC,2,none⟩=some (.bool f):=fun w' h=>(h.cell (p:=⟨bC,2,none⟩) hb).trans h1
 have R3:∀w',Below w.heap.size w w'->w'.cell? ⟨bC,4,none⟩=some (.bool false):=fun w' h=>(h.cell (p:=⟨bC,4,none⟩) hb).trans h3
 go_enter Tryz.func122,Tryz.ntmps122;go_wp2_with fail;refine wp_region_L (T:=fun w'=>Below w.heap.size w w') (s:=11) (by kernel_rfl) ((Below.refl _ _).drew) (fun hHeld=>?_);refine wpAnyL_ta 0 rfl ?_;refine wpAnyL_ta 1 rfl ?_;refine wpAnyL_ta 2 rfl ?_;refine wpAnyL_ta 3 rfl ?_;refine wpAnyL_ta 4 rfl ?_;refine wpAnyL_ta 5 rfl ?_;refine wpAnyL_ta 6 rfl ?_;refine wpAnyL_ta 7 rfl ?_;refine wpAnyL_ta 8 rfl ?_;refine wpAnyL_ta 9 rfl ?_;refine wpAnyL_call (i:=10) rfl (by kernel_rfl) (fun K hK=>?_);go_simp;refine(defined_no _ _).mono ?_;rintro e w'⟨rfl,rfl⟩;exact⟨rfl,rfl,(Below.refl _ _).drew⟩
end Go.Proofs.YtbahofiiaodpdaaGreat
