import Derived.Test.YtlkjdanoejdgbaaGreatOfEvAns
import Derived.Test.YtlkjdanoejdgbaaGreatOfStepImpl
set_option maxHeartbeats 8000000
set_option maxRecDepth 20000
namespace Go.Proofs.YtlkjdanoejdgbaaGreat
open Go.RowKit
def insN(op d a b imm h:Int)(_ j:Nat):Int:=match j with
 |0=>op
 |1=>d
 |2=>a
 |3=>b
 |4=>imm
 |_=>h
theorem insN_at(op d a b imm h:Int)(w:World)(t:TypeId):At (w.alloc (.cells #[.int .i64 op,.int .i64 d,.int .i64 a,.int .i64 b,.int .i64 imm,.int .i64 h] t)) w.heap.size 0 (1*6) (insF (insN op d a b imm h)):=by
 refine⟨by simp,fun i hi=>?_⟩;rw[Nat.zero_add,eq_cell (eq_new w _) i];match i,hi with
 |0,_=>rfl
 |1,_=>rfl
 |2,_=>rfl
 |3,_=>rfl
 |4,_=>rfl
 |5,_=>rfl
theorem Core.off{w u:World}{base bC q:Nat}{p:Pl}{nx:Int}{tab:List Value}{M:MV}(h:Core w base bC p nx tab M)(f:Ft q w u){cur:Array Value}{ty:Nat}{fr:Nat×Nat}(hq:w.heap[q]?=some (.cells cur ty fr))(hc:cur.size≠1)(ht:tyOK ty)(hu:ty≠91):Core u base bC p nx tab M:=by
 refine⟨h.mem.off f hq hu ht.1 ht.2.1 ht.2.2.1,row_at h.core fun k hk=>f.block k (h.core.lt k hk).2 fun e=>?_,h.tab.kept fun b v t _ hcell=>(f.block b hcell.lt fun e=>?_).trans hcell⟩
 ·subst e;exact row_not h.core hq ht.2.2.2 hk
 ·subst e
  have:=hq.symm.trans hcell;simp only[Option.some.injEq,Obj.cells.injEq]at this;rw[this.1]at hc;exact hc rfl
theorem MV.Ok.at{M:MV}(h:M.Ok){x:Int}:(M.at x).Ok:=⟨h.reg,h.heaps,h.heap,h.dat⟩
def dA(bC:Nat)(fu used:Int):Array Value:=#[.pointer (some ⟨bC,0,none⟩),.int .i64 fu,.int .i64 used]
theorem dA_set(bC:Nat)(fu used v:Int):(dA bC fu used).setIfInBounds 2 (.int .i64 v)=dA bC fu v:=by simp[dA]
theorem dA_ne{w:World}{base bD bC:Nat}{p:Pl}{nx:Int}{tab:List Value}{M:MV}{fu used:Int}(h:Core w base bC p nx tab M)(hD:w.heap[bD]?=some (.cells (dA bC fu used) 77)):bD≠bC:=fun e=>by
 subst e;exact row_not h.core hD (by decide) rfl
def KD(w w':World):Prop:=∀(k:Nat)(cur:Array Value)(ty:Nat)(fr:Nat×Nat),w.heap[k]?=some (.cells cur ty fr)->tyOK ty->ty≠91->ty≠77->w'.heap[k]?=some (.cells cur ty fr)
theorem KD.of{w w':World}(h:K5 w w'):KD w w':=fun _ _ _ _ hk ht hu _=>h _ _ _ _ hk ht hu
theorem KD.below{w w':World}(h:Below w.heap.size w w'):KD w w':=KD.of (K5.below h)
theorem KD.trans{a b c:World}(h:KD a b)(k:KD b c):KD a c:=fun _ _ _ _ hk ht hu hd=>k _ _ _ _ (h _ _ _ _ hk ht hu hd) ht hu hd
theorem KD.ft{w u:World}{q:Nat}{cur:Array Value}(hq:w.heap[q]?=some (.cells cur 77))(f:Ft q w u):KD w u:=fun k _ ty _ hk _ _ hd=>(f.block k (Array.getElem?_eq_some_iff.1 hk).1 fun e=>by
 subst e;have:=hq.symm.trans hk;simp only[Option.some.injEq,Obj.cells.injEq]at this;exact hd this.2.1.symm).trans hk
theorem insG_any(base bD bC:Nat)(tab:List Value)(fu used:Int)(M:MV)(x0:Int)(op d a b imm h:Int)(w:World)(p:Pl)(nx:Int)
 (hD:w.heap[bD]?=some (.cells (dA bC fu used) 77))(hC:Core w base bC p nx tab (M.at x0))(hk:M.Ok)(hn:M.nO<=1048576)(hi:implIns op d a b imm h=true)(hu:used≠fu)(u0:0<=used)(u1:used<=40000)(hb:base<=bD):
 Calls Tryz.prog 112 #[.pointer (some ⟨bD,0,none⟩),.agg #[.int .i64 op,.int .i64 d,.int .i64 a,.int .i64 b,.int .i64 imm,.int .i64 h]] w fun e w'=>
  e=.returned (.bool ((stepM 1 (insN op d a b imm h) (M.at 0)).st==0))/\Below base w w'/\KD w w'/\w'.heap[bD]?=some (.cells (dA bC fu (used+1)) 77)/\∃p' nx',Core w' base bC p' nx' tab (stepM 1 (insN op d a b imm h) (M.at 0)):=by
 have e1:(used==fu)=false:=by simp[hu]
 have HOK:Hid M.Ok:=hk;have HI:Hid (implIns op d a b imm h=true):=hi;have HD0:Hid (w.heap[bD]?=some (.cells (dA bC fu used) 77)):=hD;have HC0:Hid (Core w base bC p nx tab (M.at x0)):=hC;have hbs:=hC.size;clear hk hi hD hC hu;go_enter Tryz.func112,Tryz.ntmps112;go_upto_region 1 with fail;obtain⟨v1,hv1,b1,i1⟩:∃y,w.alloc (.cells #[.int .i64 op,.int .i64 d,.int .i64 a,.int .i64 b,.int .i64 imm,.int .i64 h] 59)=y/\Below w.heap.size w y/\y.heap[w.heap.size]?=some (.cells #[.int .i64 op,.int .i64 d,.int .i64 a,.int .i64 b,.int .i64 imm,.int .i64 h] 59):=⟨_,rfl,(Below.refl _ _).alloc (Nat.le_refl _) _,eq_new _ _⟩
 rw[hv1];have HD1:Hid (v1.heap[bD]?=some (.cells (dA bC fu used) 77)):=(b1.block _ (Array.getElem?_eq_some_iff.1 HD0.out).1).trans HD0.out;have HC1:Hid (Core v1 base bC p nx tab (M.at x0)):=HC0.out.below b1;have HB1:Hid (Below base w v1):=b1.mono hbs;have HKD1:Hid (KD w v1):=KD.below b1;have I1:Hid (v1.heap[w.heap.size]?=some (.cells #[.int .i64 op,.int .i64 d,.int .i64 a,.int .i64 b,.int .i64 imm,.int .i64 h] 59)):=i1;have lD:=(Array.getElem?_eq_some_iff.1 HD0.out).1;have lD1:=(Array.getElem?_eq_some_iff.1 HD1.out).1;have hne:=dA_ne HC0.out HD0.out;have lC0:=HC0.out.lt.2;clear hv1 b1 i1 HD0 HC0;have d0:v1.cell? ⟨bD,0,none⟩=some (.pointer (some ⟨bC,0,none⟩)):=eq_cell HD1.out 0;have d1:v1.cell? ⟨bD,1,none⟩=some (.int .i64 fu):=eq_cell HD1.out 1;have d2:v1.cell? ⟨bD,2,none⟩=some (.int .i64 used):=eq_cell HD1.out 2;have df:=fun j=>eq_free HD1.out j
 have lC:=HC1.out.lt.2;have cc6:=HC1.out.c6;have cf:=HC1.out.free;go_wp2_with fail;go_quiet(fail);go_upto_region 5 with fail;obtain⟨v2,hv2,K2,B2,D2,C2,I2⟩:∃y,((v1.drewN nq).setCell ⟨bD,2,none⟩ (.int .i64 (used+1))).setCell ⟨bC,6,none⟩ (.int .i64 0)=y/\Hid (KD w y)/\Hid (Below base w y)/\Hid (y.heap[bD]?=some (.cells (dA bC fu (used+1)) 77))/\Hid (Core y base bC p nx tab (M.at 0))/\Hid (y.heap[w.heap.size]?=some (.cells #[.int .i64 op,.int .i64 d,.int .i64 a,.int .i64 b,.int .i64 imm,.int .i64 h] 59)):=by
  have bn:Below v1.heap.size v1 (v1.drewN nq):=below_drewN (Below.refl _ _) _;have Dn:=(bn.block _ lD1).trans HD1.out;have Cn:=HC1.out.below bn;have Cs:=Cn.off (Ft.set (Ft.refl bD _) 2 (.int .i64 (used+1))) Dn (by simp[dA]) (by unfold tyOK;decide) (by decide);have Ds:=eq_set Dn 2 (.int .i64 (used+1));rw[dA_set]at Ds;refine⟨_,rfl,((HKD1.out.trans (KD.below bn)).trans (KD.ft Dn (Ft.set (Ft.refl bD _) 2 (.int .i64 (used+1))))).trans (KD.of (Cs.keepC 6 _).2),(((HB1.out.trans (bn.mono (Nat.le_trans hbs HB1.out.size))).setCell hb _).setCell HC1.out.lt.1 _),(Below.heap_setCell _ _ _ _ hne).trans Ds,Cs.setPc 0,?_⟩;rw[Below.heap_setCell _ _ _ _ (show w.heap.size≠bC by omega),Below.heap_setCell _ _ _ _ (show w.heap.size≠bD by omega),bn.block _ (Array.getElem?_eq_some_iff.1 I1.out).1];exact I1.out
 rw[hv2];clear hv2 HKD1 HD1 HC1 HB1 I1 d0 d1 d2 df cc6 cf;have lI:=(Array.getElem?_eq_some_iff.1 I2.out).1;have lD2:=(Array.getElem?_eq_some_iff.1 D2.out).1;have r0:∀w',Below v2.heap.size v2 w'->w'.cell? ⟨bD,0,none⟩=some (.pointer (some ⟨bC,0,none⟩)):=fun w' h=>(h.cell (p:=⟨bD,0,none⟩) lD2).trans (eq_cell D2.out 0)
 have i0:∀w',Below v2.heap.size v2 w'->w'.cell? ⟨w.heap.size,0,none⟩=some (.int .i64 op):=fun w' h=>(h.cell (p:=⟨w.heap.size,0,none⟩) lI).trans (eq_cell I2.out 0)
 have i1:∀w',Below v2.heap.size v2 w'->w'.cell? ⟨w.heap.size,1,none⟩=some (.int .i64 d):=fun w' h=>(h.cell (p:=⟨w.heap.size,1,none⟩) lI).trans (eq_cell I2.out 1)
 have i2:∀w',Below v2.heap.size v2 w'->w'.cell? ⟨w.heap.size,2,none⟩=some (.int .i64 a):=fun w' h=>(h.cell (p:=⟨w.heap.size,2,none⟩) lI).trans (eq_cell I2.out 2)
 have i3:∀w',Below v2.heap.size v2 w'->w'.cell? ⟨w.heap.size,3,none⟩=some (.int .i64 b):=fun w' h=>(h.cell (p:=⟨w.heap.size,3,none⟩) lI).trans (eq_cell I2.out 3)
 have i4:∀w',Below v2.heap.size v2 w'->w'.cell? ⟨w.heap.size,4,none⟩=some (.int .i64 imm):=fun w' h=>(h.cell (p:=⟨w.heap.size,4,none⟩) lI).trans (eq_cell I2.out 4)
 have i5:∀w',Below v2.heap.size v2 w'->w'.cell? ⟨w.heap.size,5,none⟩=some (.int .i64 h):=fun w' h=>(h.cell (p:=⟨w.heap.size,5,none⟩) lI).trans (eq_cell I2.out 5)
 have hS:Below v2.heap.size v2 v2.drew:=(Below.refl _ _).drew;refine wp_region_L (T:=fun w'=>Below v2.heap.size v2 w') (s:=6) (by kernel_rfl) hS (fun _=>?_);refine wpAnyL_taT 0 rfl ?_;refine wpAnyL_taT 1 rfl ?_;refine wpAnyL_taT 2 rfl ?_;refine wpAnyL_taT 3 rfl ?_;refine wpAnyL_taT 4 rfl ?_;refine wpAnyL_call (i:=5) rfl (by kernel_rfl) (fun KK hK=>?_);go_simp;obtain⟨v3,hv3,b3,a3⟩:∃y,(v2.alloc (.cells #[.int .i64 op,.int .i64 d,.int .i64 a,.int .i64 b,.int .i64 imm,.int .i64 h] 59)).drew=y/\Below v2.heap.size v2 y/\At y v2.heap.size 0 (1*6) (insF (insN op d a b imm h)):=by
  have h0:=insN_at op d a b imm h v2 59;exact⟨_,rfl,((Below.refl _ _).alloc (Nat.le_refl _) _).drew,h0.below (Below.refl _ _).drew h0.1⟩
 rw[hv3];have HA3:Hid (At v3 v2.heap.size 0 (1*6) (insF (insN op d a b imm h))):=a3;clear hv3 a3;refine hK.out _ _ b3 (fun _=>?_);clear hK KK;refine wpAnyL_store rfl (by kernel_rfl) (by kernel_rfl) (fun KK hK=>?_);go_simp;have C3:=C2.out.below b3;refine(step_one C3 HOK.out.at hn (Int.le_refl 0) v2.heap.size 0 1 1 (insN op d a b imm h) HA3.out ⟨by decide,fun q hq=>?_⟩).mono ?_
 ·exact HI.out
 rintro e v4⟨rfl,b4,k4,p4,nx4,c4⟩;have D4:Hid (v4.heap[bD]?=some (.cells (dA bC fu (used+1)) 77)):=k4.2 _ _ _ _ ((b3.block _ lD2).trans D2.out) (by unfold tyOK;decide) (by decide);have K4:Hid (KD w v4):=(K2.out.trans (KD.below b3)).trans (KD.of k4.2);have B4:Hid (Below base w v4):=(B2.out.trans (b3.mono (Nat.le_trans hbs B2.out.size))).trans b4;have C4:Hid (Core v4 base bC p4 nx4 tab (stepM 1 (insN op d a b imm h) (M.at 0))):=c4;obtain⟨N,hN⟩:∃y,stepM 1 (insN op d a b imm h) (M.at 0)=y:=⟨_,rfl⟩
 rw[hN]at C4;have HN:Hid (stepM 1 (insN op d a b imm h) (M.at 0)=N):=hN;clear b4 k4 c4 hN K2 HA3 r0 i0 i1 i2 i3 i4 i5 hS C3 b3 C2 D2 B2 I2 HOK HI lI lD2;have l4:=(Array.getElem?_eq_some_iff.1 D4.out).1;have g0:v4.cell? ⟨bD,0,none⟩=some (.pointer (some ⟨bC,0,none⟩)):=eq_cell D4.out 0;have g7:=C4.out.c7;have lc:=C4.out.lt.2;go_wp2_with fail;refine hK.out _ _ ?_;clear hK KK;go_wp2;go_ret;exact⟨by rw[HN.out];rfl,B4.out,K4.out,D4.out,p4,nx4,by rw[HN.out];exact C4.out⟩
theorem insS_any(bD bC:Nat)(fu:Int)(op d a b imm h:Int)(w:World)(hD:w.heap[bD]?=some (.cells (dA bC fu fu) 77)):
 Calls Tryz.prog 112 #[.pointer (some ⟨bD,0,none⟩),.agg #[.int .i64 op,.int .i64 d,.int .i64 a,.int .i64 b,.int .i64 imm,.int .i64 h]] w fun e w'=>e=.returned (.bool false)/\Below w.heap.size w w':=by
 have HD0:Hid (w.heap[bD]?=some (.cells (dA bC fu fu) 77)):=hD;have l0:=(Array.getElem?_eq_some_iff.1 hD).1;clear hD;have d1:w.cell? ⟨bD,1,none⟩=some (.int .i64 fu):=eq_cell HD0.out 1;have d2:w.cell? ⟨bD,2,none⟩=some (.int .i64 fu):=eq_cell HD0.out 2;go_enter Tryz.func112,Tryz.ntmps112;go_wp2_with fail;go_quiet(fail);go_wp2;go_ret;exact⟨rfl,below_drewN ((Below.refl _ _).alloc (Nat.le_refl _) _) _⟩
structure Dg(w0:World)(base bD bC:Nat)(tab:List Value)(fu:Int)(u:World)(r:RV):Prop where
 B:Below base w0 u
 D:u.heap[bD]?=some (.cells (dA bC fu r.used) 77)
 C:∃p nx x,Core u base bC p nx tab (r.M.at x)
 hb:base<=bD
section
variable{w0 u v:World}{base bD bC Bd:Nat}{tab:List Value}{fu:Int}{r:RV}
theorem Dg.lt(h:Dg w0 base bD bC tab fu u r):bD<u.heap.size:=(Array.getElem?_eq_some_iff.1 h.D).1
theorem Dg.below(h:Dg w0 base bD bC tab fu u r)(b:Below u.heap.size u v):Dg w0 base bD bC tab fu v r:=by
 obtain⟨p,nx,x,c⟩:=h.C;exact⟨h.B.trans (b.mono c.size),(b.block _ h.lt).trans h.D,⟨p,nx,x,c.below b⟩,h.hb⟩
theorem go_dec(r:RV)(h:r.out=false)(x:Int)(hx:x=r.M.st):(x==0)=r.goB:=by
 rw[Bool.eq_iff_iff,hx];simp[RV.goB,h]
theorem ins_any(h:Dg w0 base bD bC tab fu u r)(hg:r.go)(G:RGood fu Bd r)(hf:fu<=40000)(hB:Bd<=200000){s:SV}(hs:implIns s.op s.d s.a s.b s.imm s.h=true)(ho:s.op<29):
 Calls Tryz.prog 112 #[.pointer (some ⟨bD,0,none⟩),.agg #[.int .i64 s.op,.int .i64 s.d,.int .i64 s.a,.int .i64 s.b,.int .i64 s.imm,.int .i64 s.h]] u fun e u'=>e=.returned (.bool (insR fu s r).goB)/\KD u u'/\Dg w0 base bD bC tab fu u' (insR fu s r):=by
 have h1:=G.u0;have h2:=G.u1;have h3:=G.seen;obtain⟨M,used,out⟩:=r;obtain⟨p,nx,x,c⟩:=h.C;by_cases hu:used=fu
 ·subst hu
  have e:insR used s ⟨M,used,out⟩=⟨M,used,true⟩:=if_pos rfl;rw[e];refine(insS_any bD bC used s.op s.d s.a s.b s.imm s.h u h.D).mono ?_;rintro e u'⟨rfl,b⟩;have h':=h.below b;exact⟨by rfl,KD.below b,h'.B,h'.D,h'.C,h'.hb⟩
 ·have e:insR fu s ⟨M,used,out⟩=⟨doS s M,used+1,out⟩:=if_neg hu
  rw[e];obtain⟨a1,_⟩:=ins_range hs;refine(insG_any base bD bC tab fu used M x s.op s.d s.a s.b s.imm s.h u p nx h.D c G.ok (by dsimp only at h3 h2;omega) hs hu h1 (by dsimp only at h2;omega) h.hb).mono ?_;rintro e u'⟨rfl,b,kd,D,p',nx',c'⟩;obtain⟨x',ex⟩:=step_doS M (insN s.op s.d s.a s.b s.imm s.h) (s:=s) a1.1 (by omega) rfl rfl rfl rfl rfl rfl;rw[ex]at c'⊢;exact⟨by rw[go_dec ⟨doS s M,used+1,out⟩ hg.1 ((doS s M).at x').st rfl],kd,h.B.trans b,D,⟨p',nx',x',c'⟩,h.hb⟩
end
theorem not_valid{c:Int}(c1:1<=c)(c2:c<=4):implIns (notI c) 0 0 0 0 0=true:=by
 have hc:c=1∨c=2∨c=3∨c=4:=by omega
 rcases hc with rfl|rfl|rfl|rfl<;>decide+kernel
section
variable{w0 u:World}{base bD bC Bd:Nat}{tab:List Value}{fu:Int}{r:RV}
theorem look_any(h:Dg w0 base bD bC tab fu u r)(hg:r.go)(G:RGood fu Bd r)(hf:fu<=40000)(hB:Bd<=200000){c:Int}(c1:1<=c)(c2:c<=4):
 Calls Tryz.prog 113 #[.pointer (some ⟨bD,0,none⟩),.int .i64 c] u fun e u'=>∃hd,e=.returned (.tuple #[.bool hd,.bool (lookR fu c r).1.goB])/\((lookR fu c r).1.go->hd=(lookR fu c r).2)/\KD u u'/\Dg w0 base bD bC tab fu u' (lookR fu c r).1:=by
 have h1:=G.u0;have h2:=G.u1;have h3:=G.seen;have hn:=not_valid c1 c2;have HOK:Hid r.M.Ok:=G.ok;have HC1:Hid (1<=c/\c<=4):=⟨c1,c2⟩
 obtain⟨M,used,out⟩:=r;have HD:Hid (Dg w0 base bD bC tab fu u ⟨M,used,out⟩):=h;have HN:Hid (implIns (notI c) 0 0 0 0 0=true):=hn;obtain rfl:out=false:=hg.1;dsimp only at h1 h2 h3;clear h hn hg G c1 c2;go_enter Tryz.func113,Tryz.ntmps113;go_wp2_with fail;refine(skipJump_any c u).mono ?_;rintro e u1⟨rfl,hu1⟩;rw[hu1];clear hu1 u1;go_wp2_with fail;obtain⟨p,nx,x,cc⟩:=HD.out.C;have CC:Hid (Core u base bC p nx tab (M.at x)):=cc;clear cc;by_cases hu:used=fu
 ·subst hu
  have HL:Hid (lookR used c ⟨M,used,false⟩=(⟨M,used,true⟩,false)):=if_pos rfl;refine(insS_any bD bC used _ _ _ _ _ _ u HD.out.D).mono ?_;rintro e u'⟨rfl,b⟩;have HE:Hid (Dg w0 base bD bC tab used u' ⟨M,used,false⟩):=HD.out.below b;have KK:Hid (KD u u'):=KD.below b;have c':Core u' base bC p nx tab (M.at x):=CC.out.below b;have g0:u'.cell? ⟨bD,0,none⟩=some (.pointer (some ⟨bC,0,none⟩)):=eq_cell HE.out.D 0;have l0:=HE.out.lt;have g6:u'.cell? ⟨bC,6,none⟩=some (.int .i64 x):=c'.c6;have lc:=c'.lt.2;clear b c' CC HD;go_wp2;refine bodyPost_ret (v:=.tuple #[.bool (x !=0),.bool false]) (by simp[results,Tryz.results113,go_sem]) rfl ⟨x !=0,?_,?_,KK.out,?_⟩
  ·rw[HL.out];rfl
  ·rw[HL.out];exact fun q=>by cases q.1
  ·rw[HL.out];exact⟨HE.out.B,HE.out.D,HE.out.C,HE.out.hb⟩
 ·have HL:Hid (lookR fu c ⟨M,used,false⟩=(⟨lookM c M,used+1,false⟩,hasC c M&&holdC c M)):=if_neg hu
  refine(insG_any base bD bC tab fu used M x (notI c) 0 0 0 0 0 u p nx HD.out.D CC.out HOK.out (by omega) HN.out hu h1 (by omega) HD.out.hb).mono ?_;rintro e u'⟨rfl,b,kd,D,p',nx',c'⟩;have KK:Hid (KD u u'):=kd;clear kd;obtain⟨x',ex,ey⟩:=step_look M (insN (notI c) 0 0 0 0 0) HC1.out.1 HC1.out.2 rfl rfl;rw[ex]at c'⊢;have HE:Hid (Dg w0 base bD bC tab fu u' ⟨lookM c M,used+1,false⟩):=⟨HD.out.B.trans b,D,⟨p',nx',x',c'⟩,HD.out.hb⟩
  have g0:u'.cell? ⟨bD,0,none⟩=some (.pointer (some ⟨bC,0,none⟩)):=eq_cell D 0;have l0:=HE.out.lt;have g6:u'.cell? ⟨bC,6,none⟩=some (.int .i64 x'):=c'.c6;have lc:=c'.lt.2;have EY:Hid (x'=0↔(hasC c M&&holdC c M)=false):=ey;clear b D c' CC HD ex ey hu;go_wp2;refine bodyPost_ret (v:=.tuple #[.bool (x' !=0),.bool (((lookM c M).at x').st==0)]) (by simp[results,Tryz.results113,go_sem]) rfl ⟨x' !=0,?_,?_,KK.out,?_⟩
  ·rw[HL.out,go_dec ⟨lookM c M,used+1,false⟩ rfl ((lookM c M).at x').st rfl]
  ·rw[HL.out]
   intro _;have ey:=EY.out;show(x' !=0)=(hasC c M&&holdC c M);cases hq:(hasC c M&&holdC c M)with
   |false=>rw[ey.2 hq];rfl
   |true=>
    have:x'≠0:=fun e=>by rw[ey.1 e]at hq;cases hq
    simpa using this
  ·rw[HL.out];exact HE.out
end
def BlkE(w0:World)(base bD bC:Nat)(tab:List Value)(fu:Int)(Bd:Nat)(L:Nat->SV)(i te:Nat)(tv:Value):Prop:=
 ∀(u:World)(r:RV),Dg w0 base bD bC tab fu u r->RGood fu Bd r->r.go->Calls Tryz.prog 33 #[.pointer (some ⟨bD,0,none⟩),tv] u fun e u'=>∃r',e=.returned (.bool (r'.goB))/\Ev L fu i te r r'/\RGood fu Bd r'/\KD u u'/\Dg w0 base bD bC tab fu u' r'
def StE(w0:World)(base bD bC:Nat)(tab:List Value)(fu:Int)(Bd:Nat)(L:Nat->SV)(p:Nat)(x:Value):Prop:=
 ∀(u:World)(r:RV),Dg w0 base bD bC tab fu u r->RGood fu Bd r->r.go->Calls Tryz.prog 58 #[.pointer (some ⟨bD,0,none⟩),x] u fun e u'=>∃r',e=.returned (.bool (r'.goB))/\(∀te r'',p<te->Ev L fu (nxt L p) te r' r''->Ev L fu p te r r'')/\RGood fu Bd r'/\KD u u'/\Dg w0 base bD bC tab fu u' r'
section
variable{w0:World}{base bD bC:Nat}{tab:List Value}{fu:Int}{Bd:Nat}{L:Nat->SV}{p:Nat}
theorem st1_any(hf:fu<=40000)(hB:Bd<=200000)(hk:(L p).k=1)(hs:stOK (L p) (0:Int)=true):StE w0 base bD bC tab fu Bd L p (.iface 147 (.agg #[.int .i64 (p:Int),.int .i64 (L p).op,.int .i64 (L p).d,.int .i64 (L p).a,.int .i64 (L p).b,.int .i64 (L p).imm,.int .i64 (L p).h])):=by
 intro u r hD hG hgo;have D0:Hid (Dg w0 base bD bC tab fu u r):=hD;have G0:Hid (RGood fu Bd r):=hG;have GO:Hid r.go:=hgo;have K:Hid ((L p).k=1):=hk;have SO:Hid (stOK (L p) (0:Int)=true):=hs;clear hD hG hgo hk hs;have t1:=tl11;go_enter Tryz.func58,Tryz.ntmps58;go_upto_region 4 with fail;clear t1;obtain⟨u1,hu1,b1,x1⟩:∃y,u.alloc (.cells #[.int .i64 (p:Int),.int .i64 (L p).op,.int .i64 (L p).d,.int .i64 (L p).a,.int .i64 (L p).b,.int .i64 (L p).imm,.int .i64 (L p).h] 147)=y/\Below u.heap.size u y/\y.heap[u.heap.size]?=some (.cells #[.int .i64 (p:Int),.int .i64 (L p).op,.int .i64 (L p).d,.int .i64 (L p).a,.int .i64 (L p).b,.int .i64 (L p).imm,.int .i64 (L p).h] 147):=⟨_,rfl,(Below.refl _ _).alloc (Nat.le_refl _) _,eq_new _ _⟩
 rw[hu1];have D1:Hid (Dg w0 base bD bC tab fu u1 r):=D0.out.below b1;have K1:Hid (KD u u1):=KD.below b1;have lx:=(Array.getElem?_eq_some_iff.1 x1).1;have c1:u1.cell? ⟨u.heap.size,1,none⟩=some (.int .i64 (L p).op):=eq_cell x1 1;have c2:u1.cell? ⟨u.heap.size,2,none⟩=some (.int .i64 (L p).d):=eq_cell x1 2;have c3:u1.cell? ⟨u.heap.size,3,none⟩=some (.int .i64 (L p).a):=eq_cell x1 3;have c4:u1.cell? ⟨u.heap.size,4,none⟩=some (.int .i64 (L p).b):=eq_cell x1 4;have c5:u1.cell? ⟨u.heap.size,5,none⟩=some (.int .i64 (L p).imm):=eq_cell x1 5;have c6:u1.cell? ⟨u.heap.size,6,none⟩=some (.int .i64 (L p).h):=eq_cell x1 6;clear hu1 b1 x1 D0;go_wp2_with fail;refine(ins_any D1.out GO.out G0.out hf hB (st_ins SO.out K.out).1 (st_ins SO.out K.out).2).mono ?_;rintro e u2⟨rfl,k2,d2⟩;have D2:Hid _:=d2;have K2:Hid (KD u u2):=K1.out.trans k2;clear d2 k2 c1 c2 c3 c4 c5 c6 D1;go_wp2;go_ret;exact⟨insR fu (L p) r,rfl,fun te r'' hlt h=>Ev.ins hlt GO.out K.out h,G0.out.ins (st_ins SO.out K.out).1,K2.out,D2.out⟩
theorem st2_any(hf:fu<=40000)(hB:Bd<=200000)(hk:(L p).k=2)(hs:stOK (L p) (0:Int)=true)(a1 a2:Option Addr)(k1 c1 k2 c2:Nat)(hy:BlkE w0 base bD bC tab fu Bd L (p+1) (p+1+(L p).thn.toNat) (.slice a1 k1 c1))(hn:BlkE w0 base bD bC tab fu Bd L (p+1+(L p).thn.toNat) (nxt L p) (.slice a2 k2 c2)):StE w0 base bD bC tab fu Bd L p (.iface 150 (.agg #[.int .i64 (p:Int),.int .i64 (L p).cond,.slice a1 k1 c1,.slice a2 k2 c2])):=by
 intro u r hD hG hgo;have D0:Hid (Dg w0 base bD bC tab fu u r):=hD;have G0:Hid (RGood fu Bd r):=hG;have GO:Hid r.go:=hgo;have K:Hid ((L p).k=2):=hk;have KC:Hid ((L p).k=2∨(L p).k=3):=.inl hk;have SO:Hid (stOK (L p) (0:Int)=true):=hs;have HY:Hid _:=hy;have HN:Hid _:=hn;clear hD hG hgo hk hs hy hn;have t1:=tl21;have t2:=tl22;go_enter Tryz.func58,Tryz.ntmps58;go_upto_region 7 with fail;clear t1 t2;obtain⟨u1,hu1,b1,x1⟩:∃y,u.alloc (.cells #[.int .i64 (p:Int),.int .i64 (L p).cond,.slice a1 k1 c1,.slice a2 k2 c2] 150)=y/\Below u.heap.size u y/\y.heap[u.heap.size]?=some (.cells #[.int .i64 (p:Int),.int .i64 (L p).cond,.slice a1 k1 c1,.slice a2 k2 c2] 150):=⟨_,rfl,(Below.refl _ _).alloc (Nat.le_refl _) _,eq_new _ _⟩
 rw[hu1];have D1:Hid (Dg w0 base bD bC tab fu u1 r):=D0.out.below b1;have X1:Hid (u1.heap[u.heap.size]?=some (.cells #[.int .i64 (p:Int),.int .i64 (L p).cond,.slice a1 k1 c1,.slice a2 k2 c2] 150)):=x1;have K1:Hid (KD u u1):=KD.below b1;clear hu1 b1 x1 D0;have lx:=(Array.getElem?_eq_some_iff.1 X1.out).1;have g1:u1.cell? ⟨u.heap.size,1,none⟩=some (.int .i64 (L p).cond):=eq_cell X1.out 1;go_wp2_with fail;refine(look_any D1.out GO.out G0.out hf hB (st_cond SO.out KC.out).1 (st_cond SO.out KC.out).2).mono ?_;rintro e u2⟨hd,rfl,hh,kq,d2⟩;obtain⟨r1,h1,hlk⟩:∃x y,lookR fu (L p).cond r=(x,y):=⟨_,_,rfl⟩
 have g2:=G0.out.look (L p).cond;rw[hlk]at hh d2 g2⊢;dsimp only at hh d2 g2⊢;have LK1:Hid (lookR fu (L p).cond r=(r1,h1)):=hlk;have G1:Hid (RGood fu Bd r1):=g2;have D2:Hid (Dg w0 base bD bC tab fu u2 r1):=d2;have X2:Hid (u2.heap[u.heap.size]?=some (.cells #[.int .i64 (p:Int),.int .i64 (L p).cond,.slice a1 k1 c1,.slice a2 k2 c2] 150)):=kq _ _ _ _ X1.out (by unfold tyOK;decide) (by decide) (by decide);have K2:Hid (KD u u2):=K1.out.trans kq;clear kq d2 g2 hlk g1 lx;have lx:=(Array.getElem?_eq_some_iff.1 X2.out).1;by_cases hg:r1.go
 rotate_left
 ·rw[RV.goB_no hg]
  have NG:Hid (¬r1.go):=hg;clear hg hh;go_wp2;go_ret;refine⟨r1,by rw[RV.goB_no NG.out];rfl,fun te r'' hlt h=>?_,G1.out,K2.out,D2.out⟩;cases h1 with
  |true=>exact absurd (look_yes LK1.out GO.out).2 NG.out
  |false=>exact Ev.no hlt GO.out K.out LK1.out (.stop fun q=>NG.out q.2) h
 rw[RV.goB_yes hg];obtain rfl:hd=h1:=hh hg;have GG:Hid r1.go:=hg;clear hg hh;cases hd with
 |true=>
  have g2:u2.cell? ⟨u.heap.size,2,none⟩=some (.slice a1 k1 c1):=eq_cell X2.out 2;go_wp2_with fail;refine(HY.out u2 r1 D2.out G1.out GG.out).mono ?_;rintro e u3⟨r2,rfl,v2,g3,k3,d3⟩;have V2:Hid _:=v2;have GD:Hid (RGood fu Bd r2/\KD u u3/\Dg w0 base bD bC tab fu u3 r2):=⟨g3,K2.out.trans k3,d3⟩
  clear v2 g3 k3 d3 g2;go_wp2;go_ret;exact⟨r2,rfl,fun te r'' hlt h=>Ev.yes hlt GO.out K.out LK1.out V2.out h,GD.out.1,GD.out.2⟩
 |false=>
  have g2:u2.cell? ⟨u.heap.size,3,none⟩=some (.slice a2 k2 c2):=eq_cell X2.out 3;go_wp2_with fail;refine(HN.out u2 r1 D2.out G1.out GG.out).mono ?_;rintro e u3⟨r2,rfl,v2,g3,k3,d3⟩;have V2:Hid _:=v2;have GD:Hid (RGood fu Bd r2/\KD u u3/\Dg w0 base bD bC tab fu u3 r2):=⟨g3,K2.out.trans k3,d3⟩
  clear v2 g3 k3 d3 g2;go_wp2;go_ret;exact⟨r2,rfl,fun te r'' hlt h=>Ev.no hlt GO.out K.out LK1.out V2.out h,GD.out.1,GD.out.2⟩
theorem st3_any(hf:fu<=40000)(hB:Bd<=200000)(hk:(L p).k=3)(hs:stOK (L p) (0:Int)=true)(a1:Option Addr)(k1 c1:Nat)(hy:BlkE w0 base bD bC tab fu Bd L (p+1) (p+1+(L p).thn.toNat) (.slice a1 k1 c1)):StE w0 base bD bC tab fu Bd L p (.iface 153 (.agg #[.int .i64 (p:Int),.int .i64 (L p).cond,.slice a1 k1 c1])):=by
 intro u r hD hG hgo;have D0:Hid (Dg w0 base bD bC tab fu u r):=hD;have G0:Hid (RGood fu Bd r):=hG;have GO:Hid r.go:=hgo;have K:Hid ((L p).k=3):=hk;have KC:Hid ((L p).k=2∨(L p).k=3):=.inr hk;have SO:Hid (stOK (L p) (0:Int)=true):=hs;have HY:Hid _:=hy;clear hD hG hgo hk hs hy;have t1:=tl31;have t2:=tl32;have t3:=tl33;go_enter Tryz.func58,Tryz.ntmps58;go_upto_region 15 with fail;clear t1 t2 t3;obtain⟨u1,hu1,b1,x1⟩:∃y,u.alloc (.cells #[.int .i64 (p:Int),.int .i64 (L p).cond,.slice a1 k1 c1] 153)=y/\Below u.heap.size u y/\y.heap[u.heap.size]?=some (.cells #[.int .i64 (p:Int),.int .i64 (L p).cond,.slice a1 k1 c1] 153):=⟨_,rfl,(Below.refl _ _).alloc (Nat.le_refl _) _,eq_new _ _⟩
 rw[hu1];have D1:Hid (Dg w0 base bD bC tab fu u1 r):=D0.out.below b1;have X1:Hid (u1.heap[u.heap.size]?=some (.cells #[.int .i64 (p:Int),.int .i64 (L p).cond,.slice a1 k1 c1] 153)):=x1;have K1:Hid (KD u u1):=KD.below b1;clear hu1 b1 x1 D0;go_loopw [4](fun s4 wx=>s4=.bool false/\∃rc:RV,Dg w0 base bD bC tab fu wx rc/\RGood fu Bd rc/\rc.go/\KD u wx/\wx.heap[u.heap.size]?=some (.cells #[.int .i64 (p:Int),.int .i64 (L p).cond,.slice a1 k1 c1] 153)/\(∀te r'',p<te->Ev L fu p te rc r''->Ev L fu p te r r''))(fun _ wx=>(fu-intOf ((wx.cell? ⟨bD,2,none⟩).getD undef)).toNat)
 case atStart=>exact⟨rfl,r,D1.out,G0.out,GO.out,K1.out,X1.out,fun _ _ _ h=>h⟩
 case round=>
  obtain⟨rfl,rc,hD,hG,hgo,hK,hX,hV⟩:=hrel;have DC:Hid (Dg w0 base bD bC tab fu wr rc):=hD;have GC:Hid (RGood fu Bd rc):=hG;have GOC:Hid rc.go:=hgo;have KC1:Hid (KD u wr):=hK;have XC:Hid (wr.heap[u.heap.size]?=some (.cells #[.int .i64 (p:Int),.int .i64 (L p).cond,.slice a1 k1 c1] 153)):=hX;have VC:Hid (∀te r'',p<te->Ev L fu p te rc r''->Ev L fu p te r r''):=hV;have MC:Hid (wr.cell? ⟨bD,2,none⟩=some (.int .i64 rc.used)):=eq_cell hD.D 2;have lx:=(Array.getElem?_eq_some_iff.1 XC.out).1;have g1:wr.cell? ⟨u.heap.size,1,none⟩=some (.int .i64 (L p).cond):=eq_cell XC.out 1;clear hD hG hgo hK hX hV D1 K1 X1 G0;go_wp2_with fail;refine(look_any DC.out GOC.out GC.out hf hB (st_cond SO.out KC.out).1 (st_cond SO.out KC.out).2).mono ?_;rintro e u2⟨hd,rfl,hh,kq,d2⟩;obtain⟨r1,h1,hlk⟩:∃x y,lookR fu (L p).cond rc=(x,y):=⟨_,_,rfl⟩
  have g2:=GC.out.look (L p).cond;rw[hlk]at hh d2 g2⊢;dsimp only at hh d2 g2⊢;have LK1:Hid (lookR fu (L p).cond rc=(r1,h1)):=hlk;have G1:Hid (RGood fu Bd r1):=g2;have D2:Hid (Dg w0 base bD bC tab fu u2 r1):=d2;have X2:Hid (u2.heap[u.heap.size]?=some (.cells #[.int .i64 (p:Int),.int .i64 (L p).cond,.slice a1 k1 c1] 153)):=kq _ _ _ _ XC.out (by unfold tyOK;decide) (by decide) (by decide);have K2:Hid (KD u u2):=KC1.out.trans kq;clear kq d2 g2 hlk g1 lx;have lx:=(Array.getElem?_eq_some_iff.1 X2.out).1;by_cases hg:r1.go
  rotate_left
  ·rw[RV.goB_no hg]
   have NG:Hid (¬r1.go):=hg;clear hg hh;go_wp2;go_ret;refine⟨r1,by rw[RV.goB_no NG.out];rfl,fun te r'' hlt h=>VC.out te r'' hlt ?_,G1.out,K2.out,D2.out⟩;cases h1 with
   |true=>exact absurd (look_yes LK1.out GOC.out).2 NG.out
   |false=>exact Ev.done hlt GOC.out K.out LK1.out h
  rw[RV.goB_yes hg];obtain rfl:hd=h1:=hh hg;have GG:Hid r1.go:=hg;clear hg hh;cases hd with
  |false=>
   go_wp2;go_ret;exact⟨r1,by rw[RV.goB_yes GG.out];rfl,fun te r'' hlt h=>VC.out te r'' hlt (Ev.done hlt GOC.out K.out LK1.out h),G1.out,K2.out,D2.out⟩
  |true=>
   have g2:u2.cell? ⟨u.heap.size,2,none⟩=some (.slice a1 k1 c1):=eq_cell X2.out 2;go_wp2_with fail;refine(HY.out u2 r1 D2.out G1.out GG.out).mono ?_;rintro e u3⟨r2,rfl,v2,g3,k3,d3⟩;have V2:Hid _:=v2;have G3:Hid (RGood fu Bd r2):=g3;have D3:Hid (Dg w0 base bD bC tab fu u3 r2):=d3;have K3:Hid (KD u u3):=K2.out.trans k3;have X3:Hid (u3.heap[u.heap.size]?=some (.cells #[.int .i64 (p:Int),.int .i64 (L p).cond,.slice a1 k1 c1] 153)):=k3 _ _ _ _ X2.out (by unfold tyOK;decide) (by decide) (by decide);clear v2 g3 k3 d3 g2 lx;by_cases hg2:r2.go
   ·rw[RV.goB_yes hg2]
    have GG2:Hid r2.go:=hg2;clear hg2;go_wp2;go_roundw
    case rel=>exact⟨rfl,r2,D3.out,G3.out,GG2.out,K3.out,X3.out,fun te r'' hlt h=>VC.out te r'' hlt (Ev.more hlt GOC.out K.out LK1.out V2.out h)⟩
    case measure=>
     have m0:=MC.out;have m1:u3.cell? ⟨bD,2,none⟩=some (.int .i64 r2.used):=eq_cell D3.out.D 2;have m2:=Ev.mono V2.out;have m3:=(look_yes LK1.out GOC.out).1;have m4:=G3.out.u1;rw[m0,m1];show(fu-r2.used).toNat<(fu-rc.used).toNat;omega
   ·rw[RV.goB_no hg2]
    have NG:Hid (¬r2.go):=hg2;clear hg2;go_wp2;go_ret;refine⟨r2,by rw[RV.goB_no NG.out];rfl,fun te r'' hlt h=>VC.out te r'' hlt ?_,G3.out,K3.out,D3.out⟩;have e:r2=r'':=(Ev.stop fun q=>NG.out q.2).det h;subst e;exact Ev.more hlt GOC.out K.out LK1.out V2.out (.stop fun q=>NG.out q.2)
end
theorem blk_go(w0:World)(base bD bC:Nat)(tab:List Value)(fu:Int)(Bd:Nat)(L:Nat->SV)(m i te:Nat)(depth:Int)(tv:Value)(S:Nat->Prop)(hf:fu<=40000)(hB:Bd<=200000)(hlb:w0.heap.size<=base)
 (hr:RepN L (m+1) w0 S tv i te)(hit:i<=te)(hte:te<=2000)(hck:(chk L 0 0 321 i te depth).1=0)
 (ih:∀i' te' d v,i<i'->i'<=te'->te'<=te->(chk L 0 0 321 i' te' d).1=0->RepN L m w0 S v i' te'->BlkE w0 base bD bC tab fu Bd L i' te' v):BlkE w0 base bD bC tab fu Bd L i te tv:=by
 intro u r hD hG hgo;obtain⟨ns,hrow,hxl,hx⟩:=hr;obtain⟨aot,kt,ct,htv⟩:=row_slU hrow.1;subst htv;have HROW:Hid (RowS w0 S (.slice aot kt ct) ns):=hrow;have HXL:Hid (ns.length=(tops L i te).length):=hxl;have HX:Hid _:=hx;have HCK:Hid ((chk L 0 0 321 i te depth).1=0):=hck;have IH:Hid _:=ih;have D0:Hid (Dg w0 base bD bC tab fu u r):=hD;have G0:Hid (RGood fu Bd r):=hG;have GO:Hid r.go:=hgo;have hkt:kt=ns.length:=by
  rcases hrow.1.2 with⟨e,e2⟩|⟨g,cap,cur,e,_⟩
  ·have:=(Value.slice.inj e).2.1;omega
  ·exact(Value.slice.inj e).2.1
 have hk2:kt<=2000:=by rw[hkt,hxl];exact Nat.le_trans (tops_len L _ i te (Nat.le_refl _)) (by omega)
 have HKT:Hid (kt=ns.length):=hkt;clear hrow hxl hx hck ih hD hG hgo hkt;go_enter Tryz.func33,Tryz.ntmps33;go_wp2;go_loopw [9](fun iv wr=>∃(q p:Nat)(rk:RV),q<=kt/\i<=p/\p<=te/\iv=.int .i64 (q:Int)/\Dg w0 base bD bC tab fu wr rk/\RGood fu Bd rk/\rk.go/\KD u wr/\(∀r',Ev L fu p te rk r'->Ev L fu i te r r')/\(tops L i te).drop q=tops L p te/\(chk L 0 0 321 p te depth).1=0)(fun iv _=>kt-(intOf iv).toNat)
 case atStart=>exact⟨0,i,r,Nat.zero_le _,Nat.le_refl _,hit,rfl,D0.out,G0.out,GO.out,KD.below (Below.refl _ _),fun _ h=>h,by simp,HCK.out⟩
 case round=>
  obtain⟨q,p,rk,hq,hip,hpt,rfl,hD,hG,hgo,hkd,hv,hdr,hc⟩:=hrel;have D1:Hid (Dg w0 base bD bC tab fu wr rk):=hD;have G1:Hid (RGood fu Bd rk):=hG;have GO1:Hid rk.go:=hgo;have K1:Hid (KD u wr):=hkd;have V1:Hid (∀r',Ev L fu p te rk r'->Ev L fu i te r r'):=hv;have HDR:Hid ((tops L i te).drop q=tops L p te):=hdr;have HK:Hid ((chk L 0 0 321 p te depth).1=0):=hc;clear hD hG hgo hkd hv hdr hc D0 G0 GO;by_cases hlt:p<te
  rotate_left
  ·have hqn:q=kt:=by
    have h:=congrArg List.length HDR.out;rw[List.length_drop,<-HXL.out,<-HKT.out,tops_end hlt]at h;simp at h;omega
   have hqx':¬(q:Int)<(kt:Int):=by omega
   go_wp2;go_ret;exact⟨rk,by rw[RV.goB_yes GO1.out];rfl,V1.out rk (.stop fun h=>hlt h.1),G1.out,K1.out,D1.out⟩
  have hqx:q<kt:=by
   have h:=congrArg List.length HDR.out;rw[List.length_drop,<-HXL.out,<-HKT.out,tops_more hlt]at h;simp at h;omega
  have hqx':(q:Int)<(kt:Int):=by omega
  obtain⟨gt,ctt,htt⟩:=row_some2 HROW.out.1 (by rw[<-HKT.out];omega);obtain⟨rfl,hz,rfl⟩:=Value.slice.inj htt;clear hz;have HR2:Hid (w0.ownsRow 0 120 1 (.slice (some ⟨gt,0,none⟩) ns.length ct) ns.length ns):=(by have:=HROW.out.1;rwa [HKT.out]at this:w0.ownsRow 0 120 1 (.slice (some ⟨gt,0,none⟩) ns.length ct) ns.length ns)
  obtain⟨x,hxq⟩:∃x,ns[q]?=some x:=⟨ns[q]'(by rw[<-HKT.out];exact hqx),by simp[<-HKT.out,hqx]⟩
  have hpq:(tops L i te)[q]?=some p:=by
   have h:=congrArg (fun l=>l[0]?) HDR.out;simp only[tops_more hlt,List.getElem?_drop,Nat.add_zero,List.getElem?_cons_zero]at h;exact h
  have hdn:(tops L i te).drop (q+1)=tops L (nxt L p) te:=by
   have h:=congrArg (List.drop 1) HDR.out;rw[List.drop_drop,tops_more hlt]at h;simpa[Nat.add_comm,nxt]using h
  have lgt:gt<base:=by have:=(HROW.out.1.lt gt rfl).2;omega
  have g0:wr.cell? ⟨gt,q,none⟩=some x:=by
   rw[D1.out.B.cell (p:=⟨gt,q,none⟩) lgt,HR2.out.cellAt q (by rw[<-HKT.out];omega)];exact hxq
  obtain⟨sok,hnt,k1',k2',k3'⟩:=chk_next HK.out hlt;have HC3:Hid _:=k3';have HDN:Hid _:=hdn;have hnt':nxt L p<=te:=hnt;have hcase:=HX.out q x p hxq hpq;have hst:StE w0 base bD bC tab fu Bd L p x:=by
   rcases hcase with⟨k1,rfl⟩|⟨k2,v1,v2,rfl,r1,r2⟩|⟨k3,v1,rfl,r1⟩|⟨k4,rfl⟩
   ·exact st1_any hf hB k1 sok
   ·obtain⟨a1,n1,c1,rfl⟩:=r1.shp
    obtain⟨a2,n2,c2,rfl⟩:=r2.shp;exact st2_any hf hB k2 sok _ _ _ _ _ _ (IH.out _ _ _ _ (by omega) (by omega) (by omega) k1' r1) (IH.out _ _ _ _ (by omega) (by have:nxt L p=p+1+(L p).thn.toNat+(L p).els.toNat:=rfl;omega) hnt' k2' r2)
   ·obtain⟨a1,n1,c1,rfl⟩:=r1.shp
    exact st3_any hf hB k3 sok _ _ _ (IH.out _ _ _ _ (by omega) (by omega) (by omega) k1' r1)
   ·have:=st_call sok k4;omega
  have HST:Hid (StE w0 base bD bC tab fu Bd L p x):=hst;clear sok k1' k2' k3' hdn hxq hpq htt HDR HK hcase hst;have hpn:p<nxt L p:=by unfold nxt;omega
  go_wp2_with fail;have hs2:=HST.out;unfold StE at hs2;refine(hs2 wr rk D1.out G1.out GO1.out).mono ?_;rintro e u2⟨r2,rfl,v2,g2,k2,d2⟩;have V2:Hid (∀te r'',p<te->Ev L fu (nxt L p) te r2 r''->Ev L fu p te rk r''):=v2;have G2:Hid (RGood fu Bd r2):=g2;have K2:Hid (KD u u2):=K1.out.trans k2;have D2:Hid (Dg w0 base bD bC tab fu u2 r2):=d2;clear hs2 v2 g2 k2 d2 g0;by_cases hg:r2.go
  ·rw[RV.goB_yes hg]
   have GG:Hid r2.go:=hg;clear hg;go_wp2;go_roundw
   case rel=>exact⟨q+1,nxt L p,r2,by omega,by omega,hnt',by go_num,D2.out,G2.out,GG.out,K2.out,fun r' h=>V1.out r' (V2.out te r' hlt h),HDN.out,HC3.out⟩
   case measure=>simp[intOf];omega
  ·rw[RV.goB_no hg]
   have NG:Hid (¬r2.go):=hg;clear hg;go_wp2;go_ret;exact⟨r2,by rw[RV.goB_no NG.out];rfl,V1.out r2 (V2.out te r2 hlt (.stop fun h=>NG.out h.2)),G2.out,K2.out,D2.out⟩
theorem blk_any(w0:World)(base bD bC:Nat)(tab:List Value)(fu:Int)(Bd:Nat)(L:Nat->SV)(S:Nat->Prop)(hf:fu<=40000)(hB:Bd<=200000)(hlb:w0.heap.size<=base):∀(m i te:Nat)(depth:Int)(tv:Value),RepN L m w0 S tv i te->i<=te->te<=2000->(chk L 0 0 321 i te depth).1=0->BlkE w0 base bD bC tab fu Bd L i te tv:=by
 intro m;induction m with
 |zero=>
  intro i te depth tv hr hit hte hck;obtain⟨h1,rfl⟩:=hr;obtain rfl:i=te:=by omega
  exact blk_go w0 base bD bC tab fu Bd L 0 i i depth (.slice none 0 0) S hf hB hlb ⟨[],⟨World.ownsRow_nil _ _ _ _,fun b h=>by cases h⟩,by rw[tops_end (by omega)];rfl,fun k x p h=>by simp at h⟩ hit hte hck (fun i' te' d v h1 h2 h3=>by omega)
 |succ m ih=>
  intro i te depth tv hr hit hte hck;exact blk_go w0 base bD bC tab fu Bd L m i te depth tv S hf hB hlb hr hit hte hck (fun i' te' d v h1 h2 h3 h4 h5=>ih i' te' d v h5 h2 (by omega) h4)
end Go.Proofs.YtlkjdanoejdgbaaGreat
