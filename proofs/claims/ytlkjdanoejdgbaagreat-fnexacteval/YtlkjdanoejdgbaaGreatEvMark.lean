import Derived.Test.YtlkjdanoejdgbaaGreatOfEvAns
import Derived.Test.YtlkjdanoejdgbaaGreatOfRunMath
set_option maxHeartbeats 2000000
namespace Go.Proofs.YtlkjdanoejdgbaaGreat
open Go.RowKit
structure EVl where
 ok:Bool
 dn:Bool
 used:Int
 x:MVl
def EVl.val(y:EVl):Value:=.agg #[.bool y.ok,.bool y.dn,.int .i64 y.used,.slice y.x.aR y.x.nR y.x.cR,.bool y.x.z,.bool y.x.c,.bool y.x.hz,.bool y.x.hc,.slice y.x.aH y.x.nH y.x.cH,.int .i64 y.x.pc,.int .i64 y.x.st,.slice y.x.aO y.x.nO y.x.cO]
abbrev EO:=Option (MV×Bool×Int)
def oDn:EO->Bool
 |some x=>x.2.1
 |none=>false
def oUs:EO->Int
 |some x=>x.2.2
 |none=>0
def EA(w:World)(base:Nat)(y:EVl)(o:EO):Prop:=Ans w base y.x.val (o.map (·.1))/\y.ok=o.isSome/\y.dn=oDn o/\y.used=oUs o
theorem AnsE.form{w:World}{base:Nat}{v:Value}{o:EO}(h:AnsE w base v o):∃y:EVl,v=y.val/\EA w base y o:=by
 cases o with
 |none=>exact⟨⟨false,false,0,⟨none,0,0,false,false,false,false,none,0,0,0,0,none,0,0⟩⟩,h,rfl,rfl,rfl,rfl⟩
 |some x=>
  obtain⟨p,h1,h2⟩:=h;exact⟨⟨true,x.2.1,x.2.2,⟨some ⟨p.bR,0,none⟩,8,p.cR,x.1.z,x.1.c,x.1.hz,x.1.hc,p.aH,x.1.nH,p.cH,x.1.pc,x.1.st,p.aO,x.1.nO,p.cO⟩⟩,h1,⟨p,rfl,h2⟩,rfl,rfl,rfl⟩
theorem EA.below{w w':World}{base:Nat}{y:EVl}{o:EO}(h:EA w base y o)(b:Below w.heap.size w w'):EA w' base y o:=⟨h.1.below b,h.2⟩
theorem EA.mono{w:World}{base base':Nat}{y:EVl}{o:EO}(h:EA w base y o)(b:base'<=base):EA w base' y o:=⟨h.1.mono b,h.2⟩
theorem EA.at{w w':World}{base:Nat}{y:EVl}{o:EO}(h:EA w base y o)(hq:∀k,base<=k->k<w.heap.size->w'.heap[k]?=w.heap[k]?):EA w' base y o:=⟨h.1.at hq,h.2⟩
theorem ER.small{L:Nat->SV}{n nR:Nat}{M:MV}{fu:Int}{o:EO}(h:ER L n nR M fu o):SmallA (o.map (·.1)):=by
 cases o with
 |none=>exact trivial
 |some x=>
  obtain⟨hc,r,_,g,rfl⟩:=h;have h1:=g.seen;have h2:=g.u1;have h3:=hc.2.2.2.2.1;have h4:=hc.2.2.2.2.2;exact⟨by omega,by have:=g.ok.heaps;show r.M.nH<=_;omega,fun i hi=>by have:=(g.ok.heap i hi).2.2.1;show(r.M.Hp i).len<=_;omega,by show r.M.nO<=_;omega⟩
theorem eqEv_ans{w:World}{base base':Nat}{y y':EVl}{o:EO}(hs:SmallA (o.map (·.1)))(h:EA w base y o)(h':EA w base' y' o):
 Calls Tryz.prog 10 #[y.val,y'.val] w fun e w'=>e=.returned (.bool true)/\Below w.heap.size w w':=by
 obtain⟨a,e1,e2,e3⟩:=h;obtain⟨a',e1',e2',e3'⟩:=h';obtain⟨ok,dn,us,x⟩:=y;obtain⟨ok',dn',us',x'⟩:=y';dsimp only at a a' e1 e2 e3 e1' e2' e3';obtain rfl:ok'=ok:=e1'.trans e1.symm;obtain rfl:dn'=dn:=e2'.trans e2.symm;obtain rfl:us'=us:=e3'.trans e3.symm;have H:Hid (Ans w base x.val (o.map (·.1))):=a;have H':Hid (Ans w base' x'.val (o.map (·.1))):=a';have HS:Hid (SmallA (o.map (·.1))):=hs;clear a a' e1 e2 e3 e1' e2' e3' hs;show Calls _ _ #[.agg #[.bool ok',.bool dn',.int .i64 us',.slice x.aR x.nR x.cR,.bool x.z,.bool x.c,.bool x.hz,.bool x.hc,.slice x.aH x.nH x.cH,.int .i64 x.pc,.int .i64 x.st,.slice x.aO x.nO x.cO],.agg #[.bool ok',.bool dn',.int .i64 us',.slice x'.aR x'.nR x'.cR,.bool x'.z,.bool x'.c,.bool x'.hz,.bool x'.hc,.slice x'.aH x'.nH x'.cH,.int .i64 x'.pc,.int .i64 x'.st,.slice x'.aO x'.nO x'.cO]] _ _;go_enter Tryz.func10,Tryz.ntmps10;go_wp2_with fail;have b0:=((Below.refl w.heap.size w).alloc (Nat.le_refl _) (.cells #[.bool ok',.bool dn',.int .i64 us',.slice x.aR x.nR x.cR,.bool x.z,.bool x.c,.bool x.hz,.bool x.hc,.slice x.aH x.nH x.cH,.int .i64 x.pc,.int .i64 x.st,.slice x.aO x.nO x.cO] 35)).alloc (by simp) (.cells #[.bool ok',.bool dn',.int .i64 us',.slice x'.aR x'.nR x'.cR,.bool x'.z,.bool x'.c,.bool x'.hz,.bool x'.hc,.slice x'.aH x'.nH x'.cH,.int .i64 x'.pc,.int .i64 x'.st,.slice x'.aO x'.nO x'.cO] 35);refine(eqMach_ans (v:=x.val) (v':=x'.val) HS.out (H.out.below b0) (H'.out.below b0)).mono ?_;rintro e w1⟨rfl,b1⟩;have HB:Hid (Below w.heap.size w w1):=b0.trans (b1.mono (by simp;omega));clear b0 b1;go_wp2;go_ret;exact⟨rfl,HB.out⟩
theorem WM.below{w w':World}{aR:Option Addr}{nR:Nat}{aH:Option Addr}{nH:Nat}{Hq:Nat->HeapV}{aO:Option Addr}{nO:Nat}(h:WM w aR nR aH nH Hq aO nO)(b:Below w.heap.size w w'):WM w' aR nR aH nH Hq aO nO:=
 ⟨h.regs.imp fun _ q=>q.below b,h.heaps.below b,fun i hi=>(h.dat i hi).imp fun _ q=>q.below b,h.obs.imp fun _ q=>q.below b,h.rh,h.ro,h.ho,h.rd,h.hd,h.od,h.dd⟩
theorem markEv_any(y:EVl)(Hq:Nat->HeapV)(k:Int)(w:World)(k0:0<=k)(k1:k<=12582912)(hR:y.x.nR<=1048576)(hH:y.x.nH<=1048576)(hl:∀i,i<y.x.nH->(Hq i).len<=1048576)(hO:y.x.nO<=1048576)(h:WM w y.x.aR y.x.nR y.x.aH y.x.nH Hq y.x.aO y.x.nO):
 Calls Tryz.prog 15 #[y.val,.int .i64 k] w fun e w'=>e=.returned (.int .i64 (sumK Hq (k+y.x.nR) y.x.nH+2*y.x.nO))/\Fr (SM y.x.aR y.x.nR y.x.aH y.x.nH Hq y.x.aO y.x.nO) w w'/\Mkd w' y.x.aR y.x.nR y.x.aH y.x.nH Hq y.x.aO y.x.nO k:=by
 have HW:Hid (WM w y.x.aR y.x.nR y.x.aH y.x.nH Hq y.x.aO y.x.nO):=h;have HL:Hid (∀i,i<y.x.nH->(Hq i).len<=1048576):=hl;clear h hl;show Calls _ _ #[.agg #[.bool y.ok,.bool y.dn,.int .i64 y.used,.slice y.x.aR y.x.nR y.x.cR,.bool y.x.z,.bool y.x.c,.bool y.x.hz,.bool y.x.hc,.slice y.x.aH y.x.nH y.x.cH,.int .i64 y.x.pc,.int .i64 y.x.st,.slice y.x.aO y.x.nO y.x.cO],.int .i64 k] _ _;go_enter Tryz.func15,Tryz.ntmps15;go_wp2_with fail;have b0:=(Below.refl w.heap.size w).alloc (Nat.le_refl _) (.cells #[.bool y.ok,.bool y.dn,.int .i64 y.used,.slice y.x.aR y.x.nR y.x.cR,.bool y.x.z,.bool y.x.c,.bool y.x.hz,.bool y.x.hc,.slice y.x.aH y.x.nH y.x.cH,.int .i64 y.x.pc,.int .i64 y.x.st,.slice y.x.aO y.x.nO y.x.cO] 35);refine(markMach_any _ _ _ _ _ _ _ _ _ _ Hq _ _ _ _ _ k _ k0 k1 hR hH HL.out hO (HW.out.below b0)).mono ?_;rintro e w1⟨rfl,f1,m1⟩;have HF:Hid (Fr (SM y.x.aR y.x.nR y.x.aH y.x.nH Hq y.x.aO y.x.nO) w w1):=(Fr.of_below b0).trans f1;have HM:Hid (Mkd w1 y.x.aR y.x.nR y.x.aH y.x.nH Hq y.x.aO y.x.nO k):=m1;clear b0 f1 m1;go_wp2;go_ret;exact⟨rfl,HF.out,HM.out⟩
theorem heldEv_any(y:EVl)(Hq:Nat->HeapV)(k:Int)(w:World)(k0:0<=k)(k1:k<=12582912)(hR:y.x.nR<=1048576)(hH:y.x.nH<=1048576)(hl:∀i,i<y.x.nH->(Hq i).len<=1048576)(hO:y.x.nO<=1048576)(h:Mkd w y.x.aR y.x.nR y.x.aH y.x.nH Hq y.x.aO y.x.nO k):
 Calls Tryz.prog 16 #[y.val,.int .i64 k] w fun e w'=>e=.returned (.int .i64 (sumK Hq (k+y.x.nR) y.x.nH+2*y.x.nO))/\Below w.heap.size w w':=by
 have HW:Hid (Mkd w y.x.aR y.x.nR y.x.aH y.x.nH Hq y.x.aO y.x.nO k):=h;have HL:Hid (∀i,i<y.x.nH->(Hq i).len<=1048576):=hl;obtain⟨s0,s1⟩:=sumK_bound Hq (k+(y.x.nR:Int)) y.x.nH hl;clear h hl;show Calls _ _ #[.agg #[.bool y.ok,.bool y.dn,.int .i64 y.used,.slice y.x.aR y.x.nR y.x.cR,.bool y.x.z,.bool y.x.c,.bool y.x.hz,.bool y.x.hc,.slice y.x.aH y.x.nH y.x.cH,.int .i64 y.x.pc,.int .i64 y.x.st,.slice y.x.aO y.x.nO y.x.cO],.int .i64 k] _ _;go_enter Tryz.func16,Tryz.ntmps16;go_wp2_with fail;have b0:=(Below.refl w.heap.size w).alloc (Nat.le_refl _) (.cells #[.bool y.ok,.bool y.dn,.int .i64 y.used,.slice y.x.aR y.x.nR y.x.cR,.bool y.x.z,.bool y.x.c,.bool y.x.hz,.bool y.x.hc,.slice y.x.aH y.x.nH y.x.cH,.int .i64 y.x.pc,.int .i64 y.x.st,.slice y.x.aO y.x.nO y.x.cO] 35);refine(heldMach_any _ _ _ _ _ _ _ _ _ _ Hq _ _ _ _ _ k _ k0 k1 hR hH HL.out hO (HW.out.below b0 (Nat.le_refl _))).mono ?_;rintro e w1⟨rfl,b1⟩;have HB:Hid (Below w.heap.size w w1):=b0.trans (b1.mono (by simp));clear b0 b1;have nn:¬(sumK Hq (k+y.x.nR) y.x.nH+2*y.x.nO)<0:=by omega
 go_wp2;go_ret;exact⟨rfl,HB.out⟩
end Go.Proofs.YtlkjdanoejdgbaaGreat
