import Derived.Test.YtkckomianknjdaaGreatOfCoreF
import Derived.Test.YtkckomianknjdaaGreatOfFlMath
import Derived.Test.YtkckomianknjdaaGreatOfSpecDo
set_option maxHeartbeats 8000000
set_option maxRecDepth 20000
namespace Go.Proofs.YtkckomianknjdaaGreat
open Go.RowKit
variable {w:World}
def SQ(op d a b imm h:Int)(_ j:Nat):Int:=match j with
 |0=>op
 |1=>d
 |2=>a
 |3=>b
 |4=>imm
 |_=>h
theorem Yb(e d a b c h:Int)(w:World)(t:TypeId):At (w.alloc (.cells #[Vi e,Vi d,Vi a,Vi b,Vi c,Vi h] t)) w.heap.size 0 (1*6) (Ia (SQ e d a b c h)):=by
 refine⟨AY,fun i j=>?_⟩;rw[Nat.zero_add,Af (Eo w _) i];match i,j with
 |0,_=>rfl
 |1,_=>rfl
 |2,_=>rfl
 |3,_=>rfl
 |4,_=>rfl
 |5,_=>rfl
theorem Core.off{u:World}{l J q:Nat}{p:Pl}{O:Int}{tab:List Value}{M:MV}(h:Core w l J p O tab M)(f:Ft q w u){F:Array Value}{B:Nat}{o:Nat×Nat}(j:w.heap[q]?=some (.cells F B o))(m:F.size≠1)(d:Cu B)(r:B≠74):Core u l J p O tab M:=by
 refine⟨h.mem.off f j r d.1 d.2.1 d.2.2.1,Ud h.core fun k n=>f.block k (h.core.lt k n).2 fun e=>?_,h.tab.kept fun b v t _ c=>(f.block b c.lt fun e=>?_).trans c⟩
 ·subst e;exact EG h.core j d.2.2.2 n
 ·subst e
  have:=j.symm.trans c;simp only[Option.some.injEq,Obj.cells.injEq]at this;rw[this.1]at m;exact m rfl
theorem MV.Ok.at{M:MV}(h:M.Ok){x:Int}:(M.at x).Ok:=⟨h.reg,h.heaps,h.heap,h.dat⟩
def dA(bC:Nat)(fu used:Int):Array Value:=#[Vq bC,Vi fu,Vi used]
theorem fF(b:Nat)(c a v:Int):(dA b c a).setIfInBounds 2 (Vi v)=dA b c v:=by simp[dA]
theorem XL{l X J:Nat}{p:Pl}{nx:Int}{B:List Value}{M:MV}{O E:Int}(h:Core w l J p nx B M)(a:w.heap[X]?=some (.cells (dA J O E) 67)):X≠J:=fun e=>by
 subst e;exact EG h.core a Aa rfl
def KD(w w':World):Prop:=∀(k:Nat)(cur:Array Value)(ty:Nat)(fr:Nat×Nat),w.heap[k]?=some (.cells cur ty fr)->Cu ty->ty≠74->ty≠67->w'.heap[k]?=some (.cells cur ty fr)
theorem KD.of{j:World}(h:K5 w j):KD w j:=fun _ _ _ _ a b c _=>h _ _ _ _ a b c
theorem KD.below{j:World}(h:Below w.heap.size w j):KD w j:=KD.of (K5.below h)
theorem KD.trans{a b c:World}(h:KD a b)(k:KD b c):KD a c:=fun _ _ _ _ l e j d=>k _ _ _ _ (h _ _ _ _ l e j d) e j d
theorem KD.ft{u:World}{q:Nat}{F:Array Value}(c:w.heap[q]?=some (.cells F 67))(f:Ft q w u):KD w u:=fun k _ d _ a _ _ b=>(f.block k (Cj.1 a).1 fun e=>by
 subst e;have:=c.symm.trans a;simp only[Option.some.injEq,Obj.cells.injEq]at this;exact b this.2.1.symm).trans a
theorem Qz(base bD bC:Nat)(tab:List Value)(fu used:Int)(M:MV)(x0:Int)(op d a b imm h:Int)(w:World)(p:Pl)(nx:Int)
 (hD:w.heap[bD]?=some (.cells (dA bC fu used) 67))(hC:Core w base bC p nx tab (M.at x0))(hk:M.Ok)(hn:M.nO<=1048576)(hi:Ar op d a b imm h=true)(hu:used≠fu)(u0:0<=used)(u1:used<=40000)(hb:base<=bD):
 Calls Tryz.prog 113 #[.pointer (some ⟨bD,0,none⟩),.agg #[.int .i64 op,.int .i64 d,.int .i64 a,.int .i64 b,.int .i64 imm,.int .i64 h]] w fun e w'=>
  e=.returned (.bool ((stepM 1 (SQ op d a b imm h) (M.at 0)).st==0))/\Below base w w'/\KD w w'/\w'.heap[bD]?=some (.cells (dA bC fu (used+1)) 67)/\∃p' nx',Core w' base bC p' nx' tab (stepM 1 (SQ op d a b imm h) (M.at 0)):=by
 have e1:(used==fu)=false:=by simp[hu]
 have HOK:Hid M.Ok:=hk;have HI:=hxy hi;have HD0:=hxy hD;have HC0:=hxy hC;have hbs:=hC.size;clear hk hi hD hC hu;go_enter Tryz.func113,Tryz.ntmps113;go_upto_region 1 with fail;obtain⟨v1,hv1,b1,i1⟩:∃y,w.alloc (.cells #[.int .i64 op,.int .i64 d,.int .i64 a,.int .i64 b,.int .i64 imm,.int .i64 h] 85)=y/\Below w.heap.size w y/\y.heap[w.heap.size]?=some (.cells #[.int .i64 op,.int .i64 d,.int .i64 a,.int .i64 b,.int .i64 imm,.int .i64 h] 85):=⟨_,rfl,Ah,Eo _ _⟩
 rw[hv1];have HD1:Hid (v1.heap[bD]?=some (.cells (dA bC fu used) 67)):=(b1.block _ (Array.getElem?_eq_some_iff.1 HD0.out).1).trans HD0.out;have HC1:=hxy (HC0.out.below b1);have HB1:=hxy (b1.mono hbs);have HKD1:=hxy (KD.below b1);have I1:=hxy i1;have lD:=(Array.getElem?_eq_some_iff.1 HD0.out).1;have lD1:=(Array.getElem?_eq_some_iff.1 HD1.out).1;have hne:=XL HC0.out HD0.out;have lC0:=HC0.out.lt.2;clear hv1 b1 i1 HD0 HC0;have d0:v1.cell? ⟨bD,0,none⟩=some (.pointer (some ⟨bC,0,none⟩)):=Af HD1.out 0;have d1:v1.cell? ⟨bD,1,none⟩=some (.int .i64 fu):=Af HD1.out 1;have d2:v1.cell? ⟨bD,2,none⟩=some (.int .i64 used):=Af HD1.out 2;have df:=fun j=>J6 HD1.out j
 have lC:=HC1.out.lt.2;have cc6:=HC1.out.c6;have cf:=HC1.out.free;go_wp2_with fail;go_quiet(fail);go_upto_region 5 with fail;obtain⟨v2,hv2,K2,B2,D2,C2,I2⟩:∃y,((v1.drewN nq).setCell ⟨bD,2,none⟩ (.int .i64 (used+1))).setCell ⟨bC,6,none⟩ (.int .i64 0)=y/\Hid (KD w y)/\Hid (Below base w y)/\Hid (y.heap[bD]?=some (.cells (dA bC fu (used+1)) 67))/\Hid (Core y base bC p nx tab (M.at 0))/\Hid (y.heap[w.heap.size]?=some (.cells #[.int .i64 op,.int .i64 d,.int .i64 a,.int .i64 b,.int .i64 imm,.int .i64 h] 85)):=by
  have bn:Below v1.heap.size v1 (v1.drewN nq):=below_drewN (Below.refl _ _) _;have Dn:=(bn.block _ lD1).trans HD1.out;have Cn:=HC1.out.below bn;have Cs:=Cn.off (Ft.set (Ft.refl bD _) 2 (.int .i64 (used+1))) Dn (by simp[dA]) (by unfold Cu;decide) (by decide);have Ds:=QW Dn 2 (.int .i64 (used+1));rw[fF]at Ds;refine⟨_,rfl,((HKD1.out.trans (KD.below bn)).trans (KD.ft Dn (Ft.set (Ft.refl bD _) 2 (.int .i64 (used+1))))).trans (KD.of (Cs.keepC 6 _).2),(((HB1.out.trans (bn.mono (Nat.le_trans hbs HB1.out.size))).setCell hb _).setCell HC1.out.lt.1 _),(Below.heap_setCell _ _ _ _ hne).trans Ds,Cs.setPc 0,?_⟩;rw[Below.heap_setCell _ _ _ _ (show w.heap.size≠bC by omega),Below.heap_setCell _ _ _ _ (show w.heap.size≠bD by omega),bn.block _ (Array.getElem?_eq_some_iff.1 I1.out).1];exact I1.out
 rw[hv2];clear hv2 HKD1 HD1 HC1 HB1 I1 d0 d1 d2 df cc6 cf;have lI:=(Array.getElem?_eq_some_iff.1 I2.out).1;have lD2:=(Array.getElem?_eq_some_iff.1 D2.out).1;have r0:∀w',Below v2.heap.size v2 w'->w'.cell? ⟨bD,0,none⟩=some (.pointer (some ⟨bC,0,none⟩)):=fun w' h=>(h.cell (p:=⟨bD,0,none⟩) lD2).trans (Af D2.out 0)
 have i0:∀w',Below v2.heap.size v2 w'->w'.cell? ⟨w.heap.size,0,none⟩=some (.int .i64 op):=fun w' h=>(h.cell (p:=⟨w.heap.size,0,none⟩) lI).trans (Af I2.out 0)
 have i1:∀w',Below v2.heap.size v2 w'->w'.cell? ⟨w.heap.size,1,none⟩=some (.int .i64 d):=fun w' h=>(h.cell (p:=⟨w.heap.size,1,none⟩) lI).trans (Af I2.out 1)
 have i2:∀w',Below v2.heap.size v2 w'->w'.cell? ⟨w.heap.size,2,none⟩=some (.int .i64 a):=fun w' h=>(h.cell (p:=⟨w.heap.size,2,none⟩) lI).trans (Af I2.out 2)
 have i3:∀w',Below v2.heap.size v2 w'->w'.cell? ⟨w.heap.size,3,none⟩=some (.int .i64 b):=fun w' h=>(h.cell (p:=⟨w.heap.size,3,none⟩) lI).trans (Af I2.out 3)
 have i4:∀w',Below v2.heap.size v2 w'->w'.cell? ⟨w.heap.size,4,none⟩=some (.int .i64 imm):=fun w' h=>(h.cell (p:=⟨w.heap.size,4,none⟩) lI).trans (Af I2.out 4)
 have i5:∀w',Below v2.heap.size v2 w'->w'.cell? ⟨w.heap.size,5,none⟩=some (.int .i64 h):=fun w' h=>(h.cell (p:=⟨w.heap.size,5,none⟩) lI).trans (Af I2.out 5)
 have hS:Below v2.heap.size v2 v2.drew:=(Below.refl _ _).drew;refine Ak (T:=fun w'=>Below v2.heap.size v2 w') (s:=6) (by kernel_rfl) hS (fun _=>?_);refine Aj 0 ?_;refine Aj 1 ?_;refine Aj 2 ?_;refine Aj 3 ?_;refine Aj 4 ?_;refine Ac (i:=5) rfl (by kernel_rfl) (fun KK hK=>?_);go_simp;obtain⟨v3,hv3,b3,a3⟩:∃y,(v2.alloc (.cells #[.int .i64 op,.int .i64 d,.int .i64 a,.int .i64 b,.int .i64 imm,.int .i64 h] 85)).drew=y/\Below v2.heap.size v2 y/\At y v2.heap.size 0 (1*6) (Ia (SQ op d a b imm h)):=by
  have h0:=Yb op d a b imm h v2 85;exact⟨_,rfl,(Ah).drew,h0.below (Below.refl _ _).drew h0.1⟩
 rw[hv3];have HA3:=hxy a3;clear hv3 a3;refine hK.out _ _ b3 (fun _=>?_);clear hK KK;refine Ai rfl (by kernel_rfl) (by kernel_rfl) (fun KK hK=>?_);go_simp;have C3:=C2.out.below b3;refine(Qi C3 HOK.out.at hn (Int.le_refl 0) v2.heap.size 0 1 1 (SQ op d a b imm h) HA3.out ⟨by decide,fun q hq=>?_⟩).mono ?_
 ·exact HI.out
 rintro e v4⟨rfl,b4,k4,p4,nx4,c4⟩;have D4:Hid (v4.heap[bD]?=some (.cells (dA bC fu (used+1)) 67)):=k4.2 _ _ _ _ ((b3.block _ lD2).trans D2.out) (by unfold Cu;decide) (by decide);have K4:=hxy ((K2.out.trans (KD.below b3)).trans (KD.of k4.2));have B4:=hxy ((B2.out.trans (b3.mono (Nat.le_trans hbs B2.out.size))).trans b4);have C4:=hxy c4;obtain⟨N,hN⟩:=BG (stepM 1 (SQ op d a b imm h) (M.at 0));rw[hN]at C4;have HN:=hxy hN;clear b4 k4 c4 hN K2 HA3 r0 i0 i1 i2 i3 i4 i5 hS C3 b3 C2 D2 B2 I2 HOK HI lI lD2;have l4:=(Array.getElem?_eq_some_iff.1 D4.out).1;have g0:v4.cell? ⟨bD,0,none⟩=some (.pointer (some ⟨bC,0,none⟩)):=Af D4.out 0;have g7:=C4.out.c7;have lc:=C4.out.lt.2;go_wp2_with fail;refine hK.out _ _ ?_;clear hK KK;go_wp2;go_ret;exact⟨by rw[HN.out];rfl,B4.out,K4.out,D4.out,p4,nx4,by rw[HN.out];exact C4.out⟩
theorem Sc(bD bC:Nat)(fu:Int)(op d a b imm h:Int)(w:World)(hD:w.heap[bD]?=some (.cells (dA bC fu fu) 67)):
 Calls Tryz.prog 113 #[.pointer (some ⟨bD,0,none⟩),.agg #[.int .i64 op,.int .i64 d,.int .i64 a,.int .i64 b,.int .i64 imm,.int .i64 h]] w fun e w'=>e=.returned (.bool false)/\Below w.heap.size w w':=by
 have HD0:=hxy hD;have l0:=(Array.getElem?_eq_some_iff.1 hD).1;clear hD;have d1:w.cell? ⟨bD,1,none⟩=some (.int .i64 fu):=Af HD0.out 1;have d2:w.cell? ⟨bD,2,none⟩=some (.int .i64 fu):=Af HD0.out 2;go_enter Tryz.func113,Tryz.ntmps113;go_wp2_with fail;go_quiet(fail);go_wp2;go_ret;exact⟨rfl,below_drewN (Ah) _⟩
structure Dg(w0:World)(base bD bC:Nat)(tab:List Value)(fu:Int)(u:World)(r:RV):Prop where
 B:Below base w0 u
 D:u.heap[bD]?=some (.cells (dA bC fu r.used) 67)
 C:∃p nx x,Core u base bC p nx tab (r.M.at x)
 hb:base<=bD
section
variable{w0 u v:World}{base bD bC Bd:Nat}{tab:List Value}{fu:Int}{r:RV}
theorem Dg.lt(h:Dg w0 base bD bC tab fu u r):bD<u.heap.size:=(Cj.1 h.D).1
theorem Dg.below(h:Dg w0 base bD bC tab fu u r)(b:Below u.heap.size u v):Dg w0 base bD bC tab fu v r:=by
 obtain⟨p,a,x,c⟩:=h.C;exact⟨h.B.trans (b.mono c.size),(b.block _ h.lt).trans h.D,⟨p,a,x,c.below b⟩,h.hb⟩
theorem Wx(r:RV)(h:r.out=false)(x:Int)(a:x=r.M.st):(x==0)=r.goB:=by
 rw[Bool.eq_iff_iff,a];simp[RV.goB,h]
theorem Yc(h:Dg w0 base bD bC tab fu u r)(K:r.go)(G:Dz fu Bd r)(R:fu<=40000)(Q:Bd<=200000){s:SV}(z:Ar s.op s.d s.a s.b s.imm s.h=true)(S:s.op<29):
 Calls Tryz.prog 113 #[Vq bD,.agg #[Vi s.op,Vi s.d,Vi s.a,Vi s.b,Vi s.imm,Vi s.h]] u fun e m=>e=.returned (.bool (Gu fu s r).goB)/\KD u m/\Dg w0 base bD bC tab fu m (Gu fu s r):=by
 have I:=G.u0;have y:=G.u1;have J:=G.seen;obtain⟨M,j,k⟩:=r;obtain⟨p,N,x,c⟩:=h.C;by_cases n:j=fu
 ·subst n
  have e:Gu j s ⟨M,j,k⟩=⟨M,j,true⟩:=if_pos rfl;rw[e];refine(Sc bD bC j s.op s.d s.a s.b s.imm s.h u h.D).mono ?_;rintro e m⟨rfl,b⟩;have l:=h.below b;exact⟨by rfl,KD.below b,l.B,l.D,l.C,l.hb⟩
 ·have e:Gu fu s ⟨M,j,k⟩=⟨RJ s M,j+1,k⟩:=if_neg n
  rw[e];obtain⟨E,_⟩:=GQ z;refine(Qz base bD bC tab fu j M x s.op s.d s.a s.b s.imm s.h u p N h.D c G.ok (by dsimp only at J y;omega) z n I (by dsimp only at y;omega) h.hb).mono ?_;rintro e m⟨rfl,b,L,D,O,o,q⟩;obtain⟨A,F⟩:=Xj M (SQ s.op s.d s.a s.b s.imm s.h) (s:=s) E.1 AB rfl rfl rfl rfl rfl rfl;rw[F]at q⊢;exact⟨by rw[Wx ⟨RJ s M,j+1,k⟩ K.1 ((RJ s M).at A).st rfl],L,h.B.trans b,D,⟨O,o,A,q⟩,h.hb⟩
end
theorem VX{c:Int}(b:1<=c)(d:c<=4):Ar (Bu c) 0 0 0 0 0=true:=by
 have a:c=1∨c=2∨c=3∨c=4:=AB;rcases a with rfl|rfl|rfl|rfl<;>decide+kernel
section
variable{w0 u:World}{base bD bC Bd:Nat}{tab:List Value}{fu:Int}{r:RV}
theorem Rw(h:Dg w0 base bD bC tab fu u r)(hg:r.go)(G:Dz fu Bd r)(hf:fu<=40000)(hB:Bd<=200000){c:Int}(c1:1<=c)(c2:c<=4):
 Calls Tryz.prog 114 #[.pointer (some ⟨bD,0,none⟩),.int .i64 c] u fun e u'=>∃hd,e=.returned (.tuple #[.bool hd,.bool (CZ fu c r).1.goB])/\((CZ fu c r).1.go->hd=(CZ fu c r).2)/\KD u u'/\Dg w0 base bD bC tab fu u' (CZ fu c r).1:=by
 have h1:=G.u0;have h2:=G.u1;have h3:=G.seen;have hn:=VX c1 c2;have HOK:Hid r.M.Ok:=G.ok;have HC1:Hid (1<=c/\c<=4):=⟨c1,c2⟩
 obtain⟨M,used,out⟩:=r;have HD:Hid (Dg w0 base bD bC tab fu u ⟨M,used,out⟩):=h;have HN:Hid (Ar (Bu c) 0 0 0 0 0=true):=hn;obtain rfl:out=false:=hg.1;dsimp only at h1 h2 h3;clear h hn hg G c1 c2;go_enter Tryz.func114,Tryz.ntmps114;go_wp2_with fail;refine(IL c u).mono ?_;rintro e u1⟨rfl,hu1⟩;rw[hu1];clear hu1 u1;go_wp2_with fail;obtain⟨p,nx,x,cc⟩:=HD.out.C;have CC:Hid (Core u base bC p nx tab (M.at x)):=cc;clear cc;by_cases hu:used=fu
 ·subst hu
  have HL:Hid (CZ used c ⟨M,used,false⟩=(⟨M,used,true⟩,false)):=if_pos rfl;refine(Sc bD bC used _ _ _ _ _ _ u HD.out.D).mono ?_;rintro e u'⟨rfl,b⟩;have HE:=hxy (HD.out.below b);have KK:Hid (KD u u'):=KD.below b;have c':Core u' base bC p nx tab (M.at x):=CC.out.below b;have g0:u'.cell? ⟨bD,0,none⟩=some (.pointer (some ⟨bC,0,none⟩)):=Af HE.out.D 0;have l0:=HE.out.lt;have g6:u'.cell? ⟨bC,6,none⟩=some (.int .i64 x):=c'.c6;have lc:=c'.lt.2;clear b c' CC HD;go_wp2;refine bodyPost_ret (v:=.tuple #[.bool (x !=0),.bool false]) (by simp[results,Tryz.results114,go_sem]) rfl ⟨x !=0,?_,?_,KK.out,?_⟩
  ·rw[HL.out];rfl
  ·rw[HL.out];exact fun q=>by cases q.1
  ·rw[HL.out];exact⟨HE.out.B,HE.out.D,HE.out.C,HE.out.hb⟩
 ·have HL:Hid (CZ fu c ⟨M,used,false⟩=(⟨Ea c M,used+1,false⟩,Jr c M&&Gh c M)):=if_neg hu
  refine(Qz base bD bC tab fu used M x (Bu c) 0 0 0 0 0 u p nx HD.out.D CC.out HOK.out (by omega) HN.out hu h1 (by omega) HD.out.hb).mono ?_;rintro e u'⟨rfl,b,kd,D,p',nx',c'⟩;have KK:Hid (KD u u'):=kd;clear kd;obtain⟨x',ex,ey⟩:=VP M (SQ (Bu c) 0 0 0 0 0) HC1.out.1 HC1.out.2 rfl rfl;rw[ex]at c'⊢;have HE:Hid (Dg w0 base bD bC tab fu u' ⟨Ea c M,used+1,false⟩):=⟨HD.out.B.trans b,D,⟨p',nx',x',c'⟩,HD.out.hb⟩
  have g0:u'.cell? ⟨bD,0,none⟩=some (.pointer (some ⟨bC,0,none⟩)):=Af D 0;have l0:=HE.out.lt;have g6:u'.cell? ⟨bC,6,none⟩=some (.int .i64 x'):=c'.c6;have lc:=c'.lt.2;have EY:=hxy ey;clear b D c' CC HD ex ey hu;go_wp2;refine bodyPost_ret (v:=.tuple #[.bool (x' !=0),.bool (((Ea c M).at x').st==0)]) (by simp[results,Tryz.results114,go_sem]) rfl ⟨x' !=0,?_,?_,KK.out,?_⟩
  ·rw[HL.out,Wx ⟨Ea c M,used+1,false⟩ rfl ((Ea c M).at x').st rfl]
  ·rw[HL.out]
   intro _;have ey:=EY.out;show(x' !=0)=(Jr c M&&Gh c M);cases hq:(Jr c M&&Gh c M)with
   |false=>rw[ey.2 hq];rfl
   |true=>
    have:x'≠0:=fun e=>by rw[ey.1 e]at hq;cases hq
    simpa using this
  ·rw[HL.out];exact HE.out
end
def TI(w0:World)(base bD bC:Nat)(tab:List Value)(fu:Int)(Bd:Nat)(L:Nat->SV)(i te:Nat)(tv:Value):Prop:=
 ∀(u:World)(r:RV),Dg w0 base bD bC tab fu u r->Dz fu Bd r->r.go->Calls Tryz.prog 26 #[Vq bD,tv] u fun e u'=>∃r',e=.returned (.bool r'.goB)/\Ev L fu i te r r'/\Dz fu Bd r'/\KD u u'/\Dg w0 base bD bC tab fu u' r'
def jL(w0:World)(base bD bC:Nat)(tab:List Value)(fu:Int)(Bd:Nat)(L:Nat->SV)(p:Nat)(x:Value):Prop:=
 ∀(u:World)(r:RV),Dg w0 base bD bC tab fu u r->Dz fu Bd r->r.go->Calls Tryz.prog 57 #[Vq bD,x] u fun e u'=>∃r',e=.returned (.bool r'.goB)/\(∀te r'',p<te->Ev L fu (Ic L p) te r' r''->Ev L fu p te r r'')/\Dz fu Bd r'/\KD u u'/\Dg w0 base bD bC tab fu u' r'
section
variable{w0:World}{base bD bC:Nat}{tab:List Value}{fu:Int}{Bd:Nat}{L:Nat->SV}{p:Nat}
theorem Zf(J:fu<=40000)(E:Bd<=200000)(M:(L p).k=1)(N:BS (L p) (0:Int)=true):jL w0 base bD bC tab fu Bd L p (.iface 128 (.agg #[Vi (p:Int),Vi (L p).op,Vi (L p).d,Vi (L p).a,Vi (L p).b,Vi (L p).imm,Vi (L p).h])):=by
 intro u r F I l;have x:=hxy F;have o:=hxy I;have q:Hid r.go:=l;have K:=hxy M;have j:=hxy N;have t1:=iq;go_enter Tryz.func57,Tryz.ntmps57;go_upto_region 4 with fail;obtain⟨u1,n,s,c⟩:∃y,u.alloc (.cells #[Vi (p:Int),Vi (L p).op,Vi (L p).d,Vi (L p).a,Vi (L p).b,Vi (L p).imm,Vi (L p).h] 128)=y/\Bw u y/\y.heap[u.heap.size]?=some (.cells #[Vi (p:Int),Vi (L p).op,Vi (L p).d,Vi (L p).a,Vi (L p).b,Vi (L p).imm,Vi (L p).h] 128):=⟨_,rfl,Ah,Eo _ _⟩
 rw[n];have z:=hxy (x.below s);have B:=hxy (KD.below s);have lx:=(Cj.1 c).1;have R:=Af c 1;have S:=Af c 2;have U:=Af c 3;have X:=Af c 4;have Y:=Af c 5;have Z:=Af c 6;go_wp2_with fail;refine(Yc z q o J E (Ig j K).1 (Ig j K).2).mono ?_;rintro e u2⟨rfl,O,D⟩;have A:Hid _:=D;have C:=hxy (B.trans O);go_wp2;go_ret;exact⟨Gu fu (L p) r,rfl,fun te Q m h=>Ev.ins m q K h,o.ins (Ig j K).1,C,A⟩
theorem ZW(hf:fu<=40000)(hB:Bd<=200000)(hk:(L p).k=2)(hs:BS (L p) (0:Int)=true)(l m:Option Addr)(B n C o:Nat)(hy:TI w0 base bD bC tab fu Bd L (p+1) (p+1+(L p).thn.toNat) (.slice l B n))(hn:TI w0 base bD bC tab fu Bd L (p+1+(L p).thn.toNat) (Ic L p) (.slice m C o)):jL w0 base bD bC tab fu Bd L p (.iface 130 (.agg #[Vi (p:Int),Vi (L p).cond,.slice l B n,.slice m C o])):=by
 intro u r hD hG X;have D0:=hxy hD;have G0:=hxy hG;have j:Hid r.go:=X;have K:=hxy hk;have KC:Hid ((L p).k=2∨(L p).k=3):=.inl hk;have SO:=hxy hs;have HY:Hid _:=hy;have HN:Hid _:=hn;have t1:=ic;have t2:=jG;go_enter Tryz.func57,Tryz.ntmps57;go_upto_region 7 with fail;obtain⟨u1,Z,b1,x1⟩:∃y,u.alloc (.cells #[Vi (p:Int),Vi (L p).cond,.slice l B n,.slice m C o] 130)=y/\Bw u y/\y.heap[u.heap.size]?=some (.cells #[Vi (p:Int),Vi (L p).cond,.slice l B n,.slice m C o] 130):=⟨_,rfl,Ah,Eo _ _⟩
 rw[Z];have D1:=hxy (D0.below b1);have O:=hxy x1;have K1:=hxy (KD.below b1);have lx:=(Cj.1 O).1;have g1:=Af O 1;go_wp2_with fail;refine(Rw D1 j G0 hf hB (Ke SO KC).1 (Ke SO KC).2).mono ?_;rintro e u2⟨hd,rfl,Y,kq,R⟩;obtain⟨E,h1,A⟩:∃x y,CZ fu (L p).cond r=(x,y):=⟨_,_,rfl⟩
 have s:=G0.look (L p).cond;rw[A]at Y R s⊢;dsimp only at Y R s⊢;have b:=hxy A;have I:=hxy s;have F:=hxy R;have Q:Hid (u2.heap[u.heap.size]?=some (.cells #[Vi (p:Int),Vi (L p).cond,.slice l B n,.slice m C o] 130)):=kq _ _ _ _ O (by unfold Cu;decide) Aa Aa;have J:=hxy (K1.trans kq);have lx:=(Cj.1 Q).1;by_cases z:E.go
 rotate_left
 ·rw[RV.goB_no z]
  have M:=hxy z;go_wp2;go_ret;refine⟨E,by rw[RV.goB_no M.out];rfl,fun te D a h=>?_,I,J,F⟩;cases h1 with
  |true=>exact absurd (G9 b j).2 M
  |false=>exact Ev.no a j K b (.stop fun q=>M.out q.2) h
 rw[RV.goB_yes z];obtain rfl:hd=h1:=Y z;have GG:Hid E.go:=z;cases hd with
 |true=>
  have s:=Af Q 2;go_wp2_with fail;refine(HY u2 E F I GG).mono ?_;rintro e u3⟨c,rfl,v2,U,k3,S⟩;have N:Hid _:=v2;have d:Hid (Dz fu Bd c/\KD u u3/\Dg w0 base bD bC tab fu u3 c):=⟨U,J.trans k3,S⟩
  go_wp2;go_ret;exact⟨c,rfl,fun te D a h=>Ev.yes a j K b N h,d.1,d.2⟩
 |false=>
  have s:=Af Q 3;go_wp2_with fail;refine(HN u2 E F I GG).mono ?_;rintro e u3⟨c,rfl,v2,U,k3,S⟩;have N:Hid _:=v2;have d:Hid (Dz fu Bd c/\KD u u3/\Dg w0 base bD bC tab fu u3 c):=⟨U,J.trans k3,S⟩
  go_wp2;go_ret;exact⟨c,rfl,fun te D a h=>Ev.no a j K b N h,d.1,d.2⟩
theorem ZR(hf:fu<=40000)(hB:Bd<=200000)(hk:(L p).k=3)(hs:BS (L p) (0:Int)=true)(n:Option Addr)(z o:Nat)(hy:TI w0 base bD bC tab fu Bd L (p+1) (p+1+(L p).thn.toNat) (.slice n z o)):jL w0 base bD bC tab fu Bd L p (.iface 133 (.agg #[Vi (p:Int),Vi (L p).cond,.slice n z o])):=by
 intro u r N hG s;have D0:=hxy N;have G0:=hxy hG;have GO:Hid r.go:=s;have K:=hxy hk;have KC:Hid ((L p).k=2∨(L p).k=3):=.inr hk;have SO:=hxy hs;have HY:Hid _:=hy;have t1:=ig;have t2:=jN;have t3:=jW;go_enter Tryz.func57,Tryz.ntmps57;go_upto_region 15 with fail;obtain⟨u1,aa,b1,x1⟩:∃y,u.alloc (.cells #[Vi (p:Int),Vi (L p).cond,.slice n z o] 133)=y/\Bw u y/\y.heap[u.heap.size]?=some (.cells #[Vi (p:Int),Vi (L p).cond,.slice n z o] 133):=⟨_,rfl,Ah,Eo _ _⟩
 rw[aa];have D1:=hxy (D0.below b1);have X1:=hxy x1;have K1:=hxy (KD.below b1);go_loopw [4](fun s4 I=>s4=.bool false/\∃m:RV,Dg w0 base bD bC tab fu I m/\Dz fu Bd m/\m.go/\KD u I/\I.heap[u.heap.size]?=some (.cells #[Vi (p:Int),Vi (L p).cond,.slice n z o] 133)/\(∀j b,p<j->Ev L fu p j m b->Ev L fu p j r b))(fun _ I=>(fu-intOf ((I.cell? (Va bD 2)).getD undef)).toNat)
 case atStart=>exact⟨rfl,r,D1,G0,GO,K1,X1,fun _ _ _ h=>h⟩
 case round=>
  obtain⟨rfl,m,N,hG,s,hK,hX,hV⟩:=hrel;have DC:=hxy N;have GC:=hxy hG;have c:Hid m.go:=s;have Y:=hxy hK;have XC:=hxy hX;have J:=hxy hV;have MC:=hxy (Af N.D 2);have lx:=(Cj.1 XC).1;have g1:=Af XC 1;go_wp2_with fail;refine(Rw DC c GC hf hB (Ke SO KC).1 (Ke SO KC).2).mono ?_;rintro e u2⟨hd,rfl,hh,kq,d2⟩;obtain⟨F,h1,E⟩:∃x y,CZ fu (L p).cond m=(x,y):=⟨_,_,rfl⟩
  have M:=GC.look (L p).cond;rw[E]at hh d2 M⊢;dsimp only at hh d2 M⊢;have d:=hxy E;have R:=hxy M;have O:=hxy d2;have X2:Hid (u2.heap[u.heap.size]?=some (.cells #[Vi (p:Int),Vi (L p).cond,.slice n z o] 133)):=kq _ _ _ _ XC (by unfold Cu;decide) Aa Aa;have X:=hxy (Y.trans kq);have lx:=(Cj.1 X2).1;by_cases C:F.go
  rotate_left
  ·rw[RV.goB_no C]
   have A:=hxy C;go_wp2;go_ret;refine⟨F,by rw[RV.goB_no A.out];rfl,fun j b a h=>J.out j b a ?_,R,X,O⟩;cases h1 with
   |true=>exact absurd (G9 d c).2 A
   |false=>exact Ev.done a c K d h
  rw[RV.goB_yes C];obtain rfl:hd=h1:=hh C;have GG:Hid F.go:=C;cases hd with
  |false=>
   go_wp2;go_ret;exact⟨F,by rw[RV.goB_yes GG.out];rfl,fun j b a h=>J.out j b a (Ev.done a c K d h),R,X,O⟩
  |true=>
   have M:=Af X2 2;go_wp2_with fail;refine(HY u2 F O R GG).mono ?_;rintro e u3⟨B,rfl,v2,g3,k3,d3⟩;have Z:Hid _:=v2;have S:=hxy g3;have Q:=hxy d3;have K3:=hxy (X.trans k3);have X3:Hid (u3.heap[u.heap.size]?=some (.cells #[Vi (p:Int),Vi (L p).cond,.slice n z o] 133)):=k3 _ _ _ _ X2 (by unfold Cu;decide) Aa Aa;by_cases l:B.go
   ·rw[RV.goB_yes l]
    have U:Hid B.go:=l;go_wp2;go_roundw
    case rel=>exact⟨rfl,B,Q,S,U,K3,X3,fun j b a h=>J.out j b a (Ev.more a c K d Z h)⟩
    case measure=>
     have m0:=MC.out;have m1:=Af Q.D 2;have m2:=Ev.mono Z;have m3:=(G9 d c).1;have m4:=S.u1;rw[m0,m1];show(fu-B.used).toNat<(fu-m.used).toNat;omega
   ·rw[RV.goB_no l]
    have A:=hxy l;go_wp2;go_ret;refine⟨B,by rw[RV.goB_no A.out];rfl,fun j b a h=>J.out j b a ?_,S,K3,Q⟩;have e:B=b:=(Ev.stop fun q=>A.out q.2).det h;subst e;exact Ev.more a c K d Z (.stop fun q=>A.out q.2)
end
theorem WC(w0:World)(base bD bC:Nat)(tab:List Value)(fu:Int)(Bd:Nat)(L:Nat->SV)(m i te:Nat)(depth:Int)(tv:Value)(S:Nat->Prop)(hf:fu<=40000)(hB:Bd<=200000)(hlb:w0.heap.size<=base)
 (hr:El L (m+1) w0 S tv i te)(hit:i<=te)(hte:te<=2000)(hck:(Cy L 0 0 321 i te depth).1=0)
 (ih:∀i' te' d v,i<i'->i'<=te'->te'<=te->(Cy L 0 0 321 i' te' d).1=0->El L m w0 S v i' te'->TI w0 base bD bC tab fu Bd L i' te' v):TI w0 base bD bC tab fu Bd L i te tv:=by
 intro u r hD hG hgo;obtain⟨ns,hrow,hxl,hx⟩:=hr;obtain⟨aot,kt,ct,htv⟩:=FT hrow.1;subst htv;have HROW:=hxy hrow;have HXL:=hxy hxl;have HX:Hid _:=hx;have HCK:=hxy hck;have IH:Hid _:=ih;have D0:=hxy hD;have G0:=hxy hG;have GO:Hid r.go:=hgo;have hkt:kt=ns.length:=by
  rcases hrow.1.2 with⟨e,e2⟩|⟨g,cap,cur,e,_⟩
  ·have:=(Value.slice.inj e).2.1;omega
  ·exact(Value.slice.inj e).2.1
 have hk2:kt<=2000:=by rw[hkt,hxl];exact Nat.le_trans (NC L _ i te BP) AB
 have HKT:=hxy hkt;clear hrow hxl hx hck ih hD hG hgo hkt;go_enter Tryz.func26,Tryz.ntmps26;go_wp2;go_loopw [9](fun iv wr=>∃(q p:Nat)(rk:RV),q<=kt/\i<=p/\p<=te/\iv=Vi (q:Int)/\Dg w0 base bD bC tab fu wr rk/\Dz fu Bd rk/\rk.go/\KD u wr/\(∀r',Ev L fu p te rk r'->Ev L fu i te r r')/\(Dv L i te).drop q=Dv L p te/\(Cy L 0 0 321 p te depth).1=0)(fun iv _=>kt-(intOf iv).toNat)
 case atStart=>exact⟨0,i,r,Nat.zero_le _,BP,hit,rfl,D0,G0,GO,KD.below Al,fun _ h=>h,AY,HCK⟩
 case round=>
  obtain⟨q,p,rk,hq,hip,hpt,rfl,hD,hG,hgo,hkd,hv,hdr,hc⟩:=hrel;have D1:=hxy hD;have G1:=hxy hG;have GO1:Hid rk.go:=hgo;have K1:=hxy hkd;have V1:=hxy hv;have HDR:=hxy hdr;have HK:=hxy hc;clear hD hG hgo hkd hv hdr hc D0 G0 GO;by_cases hlt:p<te
  rotate_left
  ·have hqn:q=kt:=by
    have h:=congrArg List.length HDR;rw[List.length_drop,<-HXL.out,<-HKT.out,Fp hlt]at h;simp at h;omega
   have hqx':¬(q:Int)<(kt:Int):=AB;go_wp2;go_ret;exact⟨rk,by rw[RV.goB_yes GO1.out];rfl,V1 rk (.stop fun h=>hlt h.1),G1,K1,D1⟩
  have hqx:q<kt:=by
   have h:=congrArg List.length HDR;rw[List.length_drop,<-HXL.out,<-HKT.out,Db hlt]at h;simp at h;omega
  have hqx':(q:Int)<(kt:Int):=AB;obtain⟨gt,ctt,htt⟩:=He HROW.1 (by rw[<-HKT.out];omega);obtain⟨rfl,hz,rfl⟩:=Value.slice.inj htt;clear hz;have HR2:Hid (w0.ownsRow 0 125 1 (Vs gt ns.length ct) ns.length ns):=(by have:=HROW.1;rwa [HKT.out]at this:w0.ownsRow 0 125 1 (Vs gt ns.length ct) ns.length ns)
  obtain⟨x,hxq⟩:∃x,ns[q]?=some x:=⟨ns[q]'(by rw[<-HKT.out];exact hqx),by simp[<-HKT.out,hqx]⟩
  have hpq:(Dv L i te)[q]?=some p:=by
   have h:=congrArg (fun l=>l[0]?) HDR;simp only[Db hlt,List.getElem?_drop,Nat.add_zero,List.getElem?_cons_zero]at h;exact h
  have hdn:(Dv L i te).drop (q+1)=Dv L (Ic L p) te:=by
   have h:=congrArg (List.drop 1) HDR;rw[List.drop_drop,Db hlt]at h;simpa[Nat.add_comm,Ic]using h
  have lgt:gt<base:=by have:=(HROW.1.lt gt rfl).2;omega
  have g0:wr.cell? (Va gt q)=some x:=by
   rw[D1.B.cell (p:=Va gt q) lgt,HR2.cellAt q (by rw[<-HKT.out];omega)];exact hxq
  obtain⟨sok,hnt,k1',k2',k3'⟩:=GU HK hlt;have HC3:Hid _:=k3';have HDN:Hid _:=hdn;have hnt':Ic L p<=te:=hnt;have hcase:=HX.out q x p hxq hpq;have hst:jL w0 base bD bC tab fu Bd L p x:=by
   rcases hcase with⟨k1,rfl⟩|⟨k2,v1,v2,rfl,r1,r2⟩|⟨k3,v1,rfl,r1⟩|⟨k4,rfl⟩
   ·exact Zf hf hB k1 sok
   ·obtain⟨a1,n1,c1,rfl⟩:=r1.shp
    obtain⟨a2,n2,c2,rfl⟩:=r2.shp;exact ZW hf hB k2 sok _ _ _ _ _ _ (IH _ _ _ _ AB AB AB k1' r1) (IH _ _ _ _ AB (by have:Ic L p=p+1+(L p).thn.toNat+(L p).els.toNat:=rfl;omega) hnt' k2' r2)
   ·obtain⟨a1,n1,c1,rfl⟩:=r1.shp
    exact ZR hf hB k3 sok _ _ _ (IH _ _ _ _ AB AB AB k1' r1)
   ·have:=KN sok k4;omega
  have HST:=hxy hst;clear sok k1' k2' k3' hdn hxq hpq htt HDR HK hcase hst;have hpn:p<Ic L p:=by unfold Ic;omega
  go_wp2_with fail;have hs2:=HST.out;unfold jL at hs2;refine(hs2 wr rk D1 G1 GO1).mono ?_;rintro e u2⟨r2,rfl,v2,g2,k2,d2⟩;have V2:=hxy v2;have G2:=hxy g2;have K2:=hxy (K1.trans k2);have D2:=hxy d2;clear hs2 v2 g2 k2 d2 g0;by_cases hg:r2.go
  ·rw[RV.goB_yes hg]
   have GG:Hid r2.go:=hg;clear hg;go_wp2;go_roundw
   case rel=>exact⟨q+1,Ic L p,r2,AB,AB,hnt',by go_num,D2,G2,GG,K2,fun r' h=>V1.out r' (V2 te r' hlt h),HDN,HC3⟩
   case measure=>simp[intOf];omega
  ·rw[RV.goB_no hg]
   have NG:=hxy hg;clear hg;go_wp2;go_ret;exact⟨r2,by rw[RV.goB_no NG.out];rfl,V1 r2 (V2 te r2 hlt (.stop fun h=>NG.out h.2)),G2,K2,D2⟩
theorem ZA(u:World)(c A z:Nat)(o:List Value)(y:Int)(Bd:Nat)(L:Nat->SV)(S:Nat->Prop)(F:y<=40000)(E:Bd<=200000)(q:u.heap.size<=c):∀(m i e:Nat)(a:Int)(s:Value),El L m u S s i e->i<=e->e<=2000->(Cy L 0 0 321 i e a).1=0->TI u c A z o y Bd L i e s:=by
 intro m;induction m with
 |zero=>
  intro i e a s B l n j;obtain⟨C,rfl⟩:=B;obtain rfl:i=e:=AB;exact WC u c A z o y Bd L 0 i i a (.slice none 0 0) S F E q ⟨[],⟨World.ownsRow_nil _ _ _ _,fun b h=>by cases h⟩,by rw[Fp AB];rfl,fun k x p h=>by simp at h⟩ l n j (fun I r d v C D J=>by omega)
 |succ m N=>
  intro i e a s B l n j;exact WC u c A z o y Bd L m i e a s S F E q B l n j (fun I r d v C D J K M=>N I r d v M D AB K)
end Go.Proofs.YtkckomianknjdaaGreat
