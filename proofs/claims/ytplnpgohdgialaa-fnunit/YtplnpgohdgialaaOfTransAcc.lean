import Derived.Test.YtplnpgohdgialaaOfTransSum
import Derived.Test.YtplnpgohdgialaaOfValBlock
import Derived.Test.YtplnpgohdgialaaOfTransMath
import Derived.Test.YtplnpgohdgialaaOfInsSame
import Derived.Test.YtplnpgohdgialaaOfCl
import Derived.Deep.Cut
import Derived.Deep.DeepCutAuto
set_option maxHeartbeats 4000000
set_option maxRecDepth 20000
namespace Go.Proofs.Ytplnpgohdgialaa
open Go.RowKit
structure ResP(w u:World)(op d ra rb imm h:Int)(a b:VV):Prop where
 bel:Below w.heap.size w u
 I:Cl u w.heap.size [.int .i64 op,.int .i64 d,.int .i64 ra,.int .i64 rb,.int .i64 imm,.int .i64 h]
 A:Vb u (w.heap.size+1) a
 B:Vb u (w.heap.size+1+1) b
 R:Vb u (w.heap.size+1+1+1) zV
 oR:w.heap.size<=w.heap.size+1+1+1
theorem ResP.below{w u v:World}{op d ra rb imm h:Int}{a b:VV}(p:ResP w u op d ra rb imm h a b)(hb:Below u.heap.size u v):ResP w v op d ra rb imm h a b:=
 ⟨p.bel.trans (hb.mono p.bel.size),p.I.below hb,p.A.below hb p.A.lt,p.B.below hb p.B.lt,p.R.below hb p.R.lt,p.oR⟩
theorem ResP.S{w u:World}{op d ra rb imm h:Int}{a b:VV}(p:ResP w u op d ra rb imm h a b):Vb u (w.heap.size+1) a/\Vb u (w.heap.size+1+1) b/\u.cell? ⟨w.heap.size,4,none⟩=some (.int .i64 imm):=⟨p.A,p.B,p.I.2 4 (by simp)⟩
theorem cell_putV{u:World}{q b o:Nat}{x:VV}(h:b≠q):(putV u q x).cell? ⟨b,o,none⟩=u.cell? ⟨b,o,none⟩:=by
 have e:∀(v:World)(j:Nat)(y:Value),(v.setCell ⟨q,j,none⟩ y).cell? ⟨b,o,none⟩=v.cell? ⟨b,o,none⟩:=fun v j y=>World.cell?_setCell_other _ _ _ _ (fun e=>h (congrArg Addr.block e).symm)
 unfold putV;rw[e,e,e,e,e,e]
theorem ins_cells{u:World}{b:Nat}{op d ra rb imm h:Int}(p:Cl u b [.int .i64 op,.int .i64 d,.int .i64 ra,.int .i64 rb,.int .i64 imm,.int .i64 h]):u.cell? ⟨b,0,none⟩=some (.int .i64 op)/\u.cell? ⟨b,1,none⟩=some (.int .i64 d)/\u.cell? ⟨b,2,none⟩=some (.int .i64 ra)/\u.cell? ⟨b,3,none⟩=some (.int .i64 rb)/\u.cell? ⟨b,4,none⟩=some (.int .i64 imm)/\u.cell? ⟨b,5,none⟩=some (.int .i64 h):=
 ⟨p.2 0 (by simp),p.2 1 (by simp),p.2 2 (by simp),p.2 3 (by simp),p.2 4 (by simp),p.2 5 (by simp)⟩
theorem max_m{a:VV}(h:0<=maxV a)(ha:Bd a):0<=a.m/\a.m<=1099511627776:=by
 refine⟨?_,ha.m1⟩;unfold maxV at h;split at h<;>omega
theorem l1Pow_int(i:Int)(w:World)(h0:0<=i)(h1:i<=63):Calls Try.prog 84 #[.int .i64 i] w fun e w'=>e=.returned (.int .u64 ((2^i.toNat:Nat):Int))/\w'=w:=by
 obtain⟨n,rfl⟩:∃n:Nat,i=n:=⟨i.toNat,by omega⟩
 exact l1Pow_any n w (by omega)
theorem pow40{i:Int}(h0:0<=i)(h1:i<=40):∃pw:Int,((2^i.toNat:Nat):Int)=pw/\1<=pw/\pw<=1099511627776:=by
 refine⟨_,rfl,?_,?_⟩
 ·have:=Nat.two_pow_pos i.toNat;omega
 ·have:2^i.toNat<=2^40:=Nat.pow_le_pow_right (by decide) (by omega)
  have e:(2:Nat)^40=1099511627776:=by decide
  omega
theorem pow63{i:Int}(h0:0<=i)(h1:i<=63):∃pw:Int,((2^i.toNat:Nat):Int)=pw/\1<=pw/\pw<=9223372036854775808:=by
 refine⟨_,rfl,?_,?_⟩
 ·have:=Nat.two_pow_pos i.toNat;omega
 ·have:2^i.toNat<=2^63:=Nat.pow_le_pow_right (by decide) (by omega)
  have e:(2:Nat)^63=9223372036854775808:=by decide
  omega
theorem quo_le{m p:Int}(h0:0<=m)(h1:m<=1099511627776)(hp:1<=p):∃y:Int,m/p=y/\0<=y/\y<=1099511627776:=
 ⟨_,rfl,Int.ediv_nonneg h0 (by omega),Int.le_trans (Int.ediv_le_self _ h0) h1⟩
theorem res_pre(w:World){op d ra rb imm h:Int}(a b:VV):∃u,(((w.alloc (.cells #[.int .i64 op,.int .i64 d,.int .i64 ra,.int .i64 rb,.int .i64 imm,.int .i64 h] 31)).alloc (.cells #[.int .i64 a.k,.bool a.s,.int .i64 a.m,.int .i64 a.h,.int .i64 a.lo,.int .i64 a.hi] 80)).alloc (.cells #[.int .i64 b.k,.bool b.s,.int .i64 b.m,.int .i64 b.h,.int .i64 b.lo,.int .i64 b.hi] 80)).alloc (.cells #[.int .i64 0,.bool false,.int .i64 0,.int .i64 0,.int .i64 0,.int .i64 0] 80)=u/\ResP w u op d ra rb imm h a b:=by
 have e1:=Vb.new (w.alloc (.cells #[.int .i64 op,.int .i64 d,.int .i64 ra,.int .i64 rb,.int .i64 imm,.int .i64 h] 31)) a;have e2:=Vb.new ((w.alloc (.cells #[.int .i64 op,.int .i64 d,.int .i64 ra,.int .i64 rb,.int .i64 imm,.int .i64 h] 31)).alloc (.cells #[.int .i64 a.k,.bool a.s,.int .i64 a.m,.int .i64 a.h,.int .i64 a.lo,.int .i64 a.hi] 80)) b;have e3:=Vb.new (((w.alloc (.cells #[.int .i64 op,.int .i64 d,.int .i64 ra,.int .i64 rb,.int .i64 imm,.int .i64 h] 31)).alloc (.cells #[.int .i64 a.k,.bool a.s,.int .i64 a.m,.int .i64 a.h,.int .i64 a.lo,.int .i64 a.hi] 80)).alloc (.cells #[.int .i64 b.k,.bool b.s,.int .i64 b.m,.int .i64 b.h,.int .i64 b.lo,.int .i64 b.hi] 80)) zV;simp only[World.size_alloc]at e1 e2 e3;refine⟨_,rfl,?_,?_,?_,?_,e3,by omega⟩
 ·exact((((Below.refl _ _).alloc (Nat.le_refl _) _).alloc (by simp) _).alloc (by simp;omega) _).alloc (by simp;omega) _
 ·exact(((Cl.new).below ((Below.refl _ _).alloc (Nat.le_refl _) _)).below ((Below.refl _ _).alloc (Nat.le_refl _) _)).below ((Below.refl _ _).alloc (Nat.le_refl _) _)
 ·exact(e1.below ((Below.refl _ _).alloc (Nat.le_refl _) _) e1.lt).below ((Below.refl _ _).alloc (Nat.le_refl _) _) (by simp)
 ·exact e2.below ((Below.refl _ _).alloc (Nat.le_refl _) _) e2.lt
theorem l4Result_1(d ra rb imm h:Int)(a b:VV)(s:Bool)(w:World):
 Calls Try.prog 67 #[.agg #[.int .i64 1,.int .i64 d,.int .i64 ra,.int .i64 rb,.int .i64 imm,.int .i64 h],.agg #[.int .i64 a.k,.bool a.s,.int .i64 a.m,.int .i64 a.h,.int .i64 a.lo,.int .i64 a.hi],.agg #[.int .i64 b.k,.bool b.s,.int .i64 b.m,.int .i64 b.h,.int .i64 b.lo,.int .i64 b.hi],.bool s] w fun e w'=>e=.returned (resV 1 imm a b s).v/\Below w.heap.size w w':=by
 go_enter Try.func67,Try.ntmps67;go_upto_region 1 with fail;obtain⟨u0,hu,pu⟩:=res_pre w (op:=1) (d:=d) (ra:=ra) (rb:=rb) (imm:=imm) (h:=h) a b;rw[hu];have P0:Hid (ResP w u0 1 d ra rb imm h a b):=pu;clear hu pu;obtain⟨i0,i1,i2,i3,i4,i5⟩:=ins_cells P0.out.I;obtain⟨a0,a1,a2,a3,a4,a5⟩:=P0.out.A.cells;obtain⟨b0,b1,b2,b3,b4,b5⟩:=P0.out.B.cells;obtain⟨r0,r1,r2,r3,r4,r5⟩:=P0.out.R.cells;have rf:=P0.out.R.free;have rl:=P0.out.R.lt;have af:=P0.out.A.free;go_wp2;exact bodyPost_ret (v:=VV.v a) (by simp[results,Try.results67,go_sem,VV.v, *]) rfl ⟨congrArg (fun v=>Ending.returned (VV.v v)) (by simp[resV]),below_putV P0.out.bel P0.out.oR a⟩
theorem l4Result_2(d ra rb imm h:Int)(a b:VV)(s:Bool)(w:World):
 Calls Try.prog 67 #[.agg #[.int .i64 2,.int .i64 d,.int .i64 ra,.int .i64 rb,.int .i64 imm,.int .i64 h],.agg #[.int .i64 a.k,.bool a.s,.int .i64 a.m,.int .i64 a.h,.int .i64 a.lo,.int .i64 a.hi],.agg #[.int .i64 b.k,.bool b.s,.int .i64 b.m,.int .i64 b.h,.int .i64 b.lo,.int .i64 b.hi],.bool s] w fun e w'=>e=.returned (resV 2 imm a b s).v/\Below w.heap.size w w':=by
 go_enter Try.func67,Try.ntmps67;go_upto_region 1 with fail;obtain⟨u0,hu,pu⟩:=res_pre w (op:=2) (d:=d) (ra:=ra) (rb:=rb) (imm:=imm) (h:=h) a b;rw[hu];have P0:Hid (ResP w u0 2 d ra rb imm h a b):=pu;clear hu pu;obtain⟨i0,i1,i2,i3,i4,i5⟩:=ins_cells P0.out.I;obtain⟨a0,a1,a2,a3,a4,a5⟩:=P0.out.A.cells;obtain⟨b0,b1,b2,b3,b4,b5⟩:=P0.out.B.cells;obtain⟨r0,r1,r2,r3,r4,r5⟩:=P0.out.R.cells;have rf:=P0.out.R.free;have rl:=P0.out.R.lt;have af:=P0.out.A.free;go_wp2_with fail;refine(l4Num_any false (imm) _).mono ?_;rintro e u1⟨rfl,hb⟩;have P1:Hid (ResP w u1 2 d ra rb imm h a b):=P0.out.below hb;clear hb;clear i0 i1 i2 i3 i4 i5 a0 a1 a2 a3 a4 a5 b0 b1 b2 b3 b4 b5 r0 r1 r2 r3 r4 r5 rf rl af;simp only[VV.v];obtain⟨i0,i1,i2,i3,i4,i5⟩:=ins_cells P1.out.I;obtain⟨a0,a1,a2,a3,a4,a5⟩:=P1.out.A.cells;obtain⟨b0,b1,b2,b3,b4,b5⟩:=P1.out.B.cells;obtain⟨r0,r1,r2,r3,r4,r5⟩:=P1.out.R.cells;have rf:=P1.out.R.free;have rl:=P1.out.R.lt;have af:=P1.out.A.free;go_wp2;exact bodyPost_ret (v:=VV.v (numV false (imm))) (by simp[results,Try.results67,go_sem,VV.v, *]) rfl ⟨congrArg (fun v=>Ending.returned (VV.v v)) (by simp[resV]),below_putV P1.out.bel P1.out.oR (numV false (imm))⟩
end Go.Proofs.Ytplnpgohdgialaa
namespace Go.Proofs.Ytplnpgohdgialaa
open Go.RowKit Go.Deep
def updV(V:Nat->VV)(d:Nat)(r:VV)(i:Nat):VV:=if i=d then r else V i
def TrAns(w w':World)(e:Ending)(err:Int)(V:Nat->VV)(z c:Int):Prop:=
 (err≠0/\e=.returned (.agg #[.int .i64 err,.slice none 0 0,.int .i64 0,.int .i64 0]))∨(err=0/\∃g cg,w.heap.size<=g/\e=.returned (.agg #[.int .i64 0,.slice (some ⟨g,0,none⟩) 8 cg,.int .i64 z,.int .i64 c])/\Arr w' g (8*6) (vF V))
structure ItP(w u:World)(bH nH cH bR nR cR bA nA cA:Nat)(z c op d ra rb imm h:Int):Prop where
 bel:Below w.heap.size w u
 S:Cl u w.heap.size [.slice (some ⟨bH,0,none⟩) nH cH,.slice (some ⟨bR,0,none⟩) nR cR]
 A:Cl u (w.heap.size+1) [.slice (some ⟨bA,0,none⟩) nA cA,.int .i64 z,.int .i64 c]
 I:Cl u (w.heap.size+1+1) [.int .i64 op,.int .i64 d,.int .i64 ra,.int .i64 rb,.int .i64 imm,.int .i64 h]
 R:Cl u (w.heap.size+1+1+1) [.int .i64 0,.slice none 0 0,.int .i64 0,.int .i64 0]
 RF:∀i,u.frozen? ⟨w.heap.size+1+1+1,i,none⟩=false
theorem ItP.below{w u v:World}{bH nH cH bR nR cR bA nA cA:Nat}{z c op d ra rb imm h:Int}(p:ItP w u bH nH cH bR nR cR bA nA cA z c op d ra rb imm h)(hb:Below u.heap.size u v):ItP w v bH nH cH bR nR cR bA nA cA z c op d ra rb imm h:=
 ⟨p.bel.trans (hb.mono p.bel.size),p.S.below hb,p.A.below hb,p.I.below hb,p.R.below hb,fun i=>(hb.frozen (p:=⟨w.heap.size+1+1+1,i,none⟩) p.R.1).trans (p.RF i)⟩
theorem it_pre(w:World)(bH nH cH bR nR cR bA nA cA:Nat){z c op d ra rb imm h:Int}:∃u,(((w.alloc (.cells #[.slice (some ⟨bH,0,none⟩) nH cH,.slice (some ⟨bR,0,none⟩) nR cR] 47)).alloc (.cells #[.slice (some ⟨bA,0,none⟩) nA cA,.int .i64 z,.int .i64 c] 106)).alloc (.cells #[.int .i64 op,.int .i64 d,.int .i64 ra,.int .i64 rb,.int .i64 imm,.int .i64 h] 31)).alloc (.cells #[.int .i64 0,.slice none 0 0,.int .i64 0,.int .i64 0] 123)=u/\ItP w u bH nH cH bR nR cR bA nA cA z c op d ra rb imm h:=by
 have e0:=Cl.new (w:=w) (vs:=#[.slice (some ⟨bH,0,none⟩) nH cH,.slice (some ⟨bR,0,none⟩) nR cR]) (t:=47);generalize hx:w.alloc (.cells #[.slice (some ⟨bH,0,none⟩) nH cH,.slice (some ⟨bR,0,none⟩) nR cR] 47)=x at *;have s0:x.heap.size=w.heap.size+1:=by rw[<-hx];simp
 have b0:Below w.heap.size w x:=by rw[<-hx];exact(Below.refl _ _).alloc (Nat.le_refl _) _
 clear hx;have e1:=Cl.new (w:=x) (vs:=#[.slice (some ⟨bA,0,none⟩) nA cA,.int .i64 z,.int .i64 c]) (t:=106);generalize hy:x.alloc (.cells #[.slice (some ⟨bA,0,none⟩) nA cA,.int .i64 z,.int .i64 c] 106)=y at *;have s1:y.heap.size=w.heap.size+1+1:=by rw[<-hy];simp[s0]
 have b1:Below x.heap.size x y:=by rw[<-hy];exact(Below.refl _ _).alloc (Nat.le_refl _) _
 clear hy;have e2:=Cl.new (w:=y) (vs:=#[.int .i64 op,.int .i64 d,.int .i64 ra,.int .i64 rb,.int .i64 imm,.int .i64 h]) (t:=31);generalize hz:y.alloc (.cells #[.int .i64 op,.int .i64 d,.int .i64 ra,.int .i64 rb,.int .i64 imm,.int .i64 h] 31)=v at *;have s2:v.heap.size=w.heap.size+1+1+1:=by rw[<-hz];simp[s1]
 have b2:Below y.heap.size y v:=by rw[<-hz];exact(Below.refl _ _).alloc (Nat.le_refl _) _
 clear hz;have e3:=Cl.new (w:=v) (vs:=#[.int .i64 0,.slice none 0 0,.int .i64 0,.int .i64 0]) (t:=123);have f3:∀i,(v.alloc (.cells #[.int .i64 0,.slice none 0 0,.int .i64 0,.int .i64 0] 123)).frozen? ⟨v.heap.size,i,none⟩=false:=fun i=>by simp[go_sem]
 have b3:Below v.heap.size v (v.alloc (.cells #[.int .i64 0,.slice none 0 0,.int .i64 0,.int .i64 0] 123)):=(Below.refl _ _).alloc (Nat.le_refl _) _;have c0:=(e0.below b1).below b2;have c1:=e1.below b2;rw[s0]at c1;rw[s1]at e2;rw[s2]at e3 f3;exact⟨_,rfl,((b0.trans (b1.mono (by omega))).trans (b2.mono (by omega))).trans (b3.mono (by omega)),c0.below b3,c1.below b3,e2.below b3,e3,f3⟩
theorem it_cells{w u:World}{bH nH cH bR nR cR bA nA cA:Nat}{z c op d ra rb imm h:Int}(p:ItP w u bH nH cH bR nR cR bA nA cA z c op d ra rb imm h):(u.cell? ⟨w.heap.size,0,none⟩=some (.slice (some ⟨bH,0,none⟩) nH cH)/\u.cell? ⟨w.heap.size,1,none⟩=some (.slice (some ⟨bR,0,none⟩) nR cR))/\(u.cell? ⟨w.heap.size+1,0,none⟩=some (.slice (some ⟨bA,0,none⟩) nA cA)/\u.cell? ⟨w.heap.size+1,1,none⟩=some (.int .i64 z)/\u.cell? ⟨w.heap.size+1,2,none⟩=some (.int .i64 c))/\(u.cell? ⟨w.heap.size+1+1+1,0,none⟩=some (.int .i64 0)/\u.cell? ⟨w.heap.size+1+1+1,1,none⟩=some (.slice none 0 0)/\u.cell? ⟨w.heap.size+1+1+1,2,none⟩=some (.int .i64 0)/\u.cell? ⟨w.heap.size+1+1+1,3,none⟩=some (.int .i64 0)):=
 ⟨⟨p.S.2 0 (by simp),p.S.2 1 (by simp)⟩,⟨p.A.2 0 (by simp),p.A.2 1 (by simp),p.A.2 2 (by simp)⟩,p.R.2 0 (by simp),p.R.2 1 (by simp),p.R.2 2 (by simp),p.R.2 3 (by simp)⟩
theorem bd_of_good{v:VV}{n:Int}(h:goodB v n=true):Bd v:=by
 unfold goodB at h;split at h
 ·rename_i hk
  have q:=of_decide_eq_true h;exact⟨q.1,q.2.1,by omega,by omega,by omega,by omega,Or.inl hk⟩
 ·have q:=of_decide_eq_true h
  exact⟨by omega,by omega,by omega,by omega,by omega,by omega,Or.inr q.1⟩
theorem heap_of_good{v:VV}{n:Int}(h:goodB v n=true)(hk:v.k=1):0<=v.h/\v.h<n:=by
 unfold goodB at h;rw[if_neg (by omega)]at h;have q:=of_decide_eq_true h;omega
theorem good_regs{nH nR nA:Nat}{S:Nat->HS}{V0 V:Nat->VV}{z c:Int}(h:absOK nH S nR V0 nA V z c=true):nA=8/\nH<=8/\∀i,i<8->goodB (V i) nH=true:=by
 unfold absOK at h;simp only[Bool.and_eq_true]at h;obtain⟨⟨⟨hs,hg⟩,_⟩,_⟩:=h;have h8:=sig_le8 hs;unfold goodAll at hg;rw[Bool.and_eq_true]at hg;have hn:=of_decide_eq_true hg.1;refine⟨hn,h8,fun i hi=>?_⟩;have:=List.all_eq_true.1 hg.2 i (List.mem_range.2 (by omega));exact this
theorem ins_nats{op d ra rb imm h:Int}(e:implIns op d ra rb imm h=true)(o:op<=28):1<=op/\0<=d/\d<=7/\0<=ra/\ra<=7/\0<=rb/\rb<=7/\0<=h/\h<=7/\ -1000000<=imm/\imm<=1000000/\(op=12∨op=13->0<=imm/\imm<=63):=by
 unfold implIns at e;have f:∀(u:Bool)(v lo hi:Int),fieldB u v lo hi=true->(lo<=v/\v<=hi)∨v=0:=fun u v lo hi h=>by
  unfold fieldB inB at h;cases u<;>simp at h<;>omega
 simp only[Bool.and_eq_true]at e;obtain⟨⟨⟨⟨⟨e1,e2⟩,e3⟩,e4⟩,e5⟩,e6⟩:=e;have g1:1<=op:=by unfold inB at e1;simp at e1;omega
 have i1: -1000000<=immLo op/\immHi op<=1000000:=by unfold immLo immHi;(repeat' split)<;>omega
 have i2:op=12∨op=13->immLo op=0/\immHi op=63:=fun h=>by unfold immLo immHi;rw[if_pos (by omega),if_pos h];exact⟨rfl,rfl⟩
 have:=f _ _ _ _ e2;have:=f _ _ _ _ e3;have:=f _ _ _ _ e4;have:=f _ _ _ _ e5;have:=f _ _ _ _ e6;refine⟨g1,by omega,by omega,by omega,by omega,by omega,by omega,by omega,by omega,by omega,by omega,fun h=>?_⟩;have:=i2 h;omega
end Go.Proofs.Ytplnpgohdgialaa
namespace Go.Proofs.Ytplnpgohdgialaa
open Go.RowKit
def AccAns(w':World)(g cg:Nat)(e:Ending)(err:Int)(V:Nat->VV)(z c:Int):Prop:=
 (err≠0/\e=.returned (.agg #[.int .i64 err,.slice none 0 0,.int .i64 0,.int .i64 0]))∨(err=0/\e=.returned (.agg #[.int .i64 0,.slice (some ⟨g,0,none⟩) 8 cg,.int .i64 z,.int .i64 c])/\Arr w' g (8*6) (vF V))
def put6(w:World)(b o:Nat)(r:VV):World:=(((((w.setCell ⟨b,o,none⟩ (.int .i64 r.k)).setCell ⟨b,o+1,none⟩ (.bool r.s)).setCell ⟨b,o+2,none⟩ (.int .i64 r.m)).setCell ⟨b,o+3,none⟩ (.int .i64 r.h)).setCell ⟨b,o+4,none⟩ (.int .i64 r.lo)).setCell ⟨b,o+5,none⟩ (.int .i64 r.hi)
theorem regs_set{w:World}{b:Nat}{V:Nat->VV}(h:Arr w b (8*6) (vF V)){d:Nat}(hd:d<8)(r:VV):Arr (put6 w b (d*6) r) b (8*6) (vF (updV V d r)):=by
 refine(Arr.set1 (Arr.set1 (Arr.set1 (Arr.set1 (Arr.set1 (Arr.set1 h (d*6) (by omega) _) (d*6+1) (by omega) _) (d*6+2) (by omega) _) (d*6+3) (by omega) _) (d*6+4) (by omega) _) (d*6+5) (by omega) _).congr (fun i hi=>?_);have hx:=Nat.div_add_mod i 6;have hm:i%6<6:=Nat.mod_lt _ (by decide);simp only[vF,updV];generalize i/6=kk at *;generalize i%6=jj at *;by_cases hk:kk=d
 ·subst hk
  rw[if_pos rfl];match jj,hm with
  |0,_=>rw[if_neg (by omega),if_neg (by omega),if_neg (by omega),if_neg (by omega),if_neg (by omega),if_pos (by omega)];rfl
  |1,_=>rw[if_neg (by omega),if_neg (by omega),if_neg (by omega),if_neg (by omega),if_pos (by omega)];rfl
  |2,_=>rw[if_neg (by omega),if_neg (by omega),if_neg (by omega),if_pos (by omega)];rfl
  |3,_=>rw[if_neg (by omega),if_neg (by omega),if_pos (by omega)];rfl
  |4,_=>rw[if_neg (by omega),if_pos (by omega)];rfl
  |5,_=>rw[if_pos (by omega)];rfl
 ·rw[if_neg hk]
  iterate 6 rw[if_neg (by omega)]
theorem below_put6{B b o:Nat}{w0 w:World}(h:Below B w0 w)(hb:B<=b)(r:VV):Below B w0 (put6 w b o r):=by
 unfold put6;exact(((((h.setCell hb _).setCell hb _).setCell hb _).setCell hb _).setCell hb _).setCell hb _
theorem cl_put6{w:World}{b c o:Nat}{vs:List Value}(h:Cl w c vs)(hne:b≠c)(r:VV):Cl (put6 w b o r) c vs:=
 ⟨by unfold put6;simpa using h.1,fun i hi=>by unfold put6;(iterate 6 refine(World.cell?_setCell_far _ _ _ _ hne).trans ?_);exact h.2 i hi⟩
theorem fz_put6{w:World}{b o:Nat}{a:Addr}(r:VV):(put6 w b o r).frozen? a=w.frozen? a:=by unfold put6;simp
theorem updV_twice(V:Nat->VV)(d:Nat)(r s:VV):updV (updV V d r) d s=updV V d s:=by funext i;unfold updV;split<;>rfl
structure AcP(w u:World)(bH nH cH bR nR cR g cg:Nat)(z c op d ra rb imm h:Int)(na nb:Nat)(a b:VV)(V:Nat->VV):Prop where
 bel:Below g w u
 S:Cl u w.heap.size [.slice (some ⟨bH,0,none⟩) nH cH,.slice (some ⟨bR,0,none⟩) nR cR]
 A:Cl u (w.heap.size+1) [.slice (some ⟨g,0,none⟩) 8 cg,.int .i64 z,.int .i64 c]
 I:Cl u (w.heap.size+1+1) [.int .i64 op,.int .i64 d,.int .i64 ra,.int .i64 rb,.int .i64 imm,.int .i64 h]
 R:Cl u (w.heap.size+1+1+1) [.int .i64 0,.slice none 0 0,.int .i64 0,.int .i64 0]
 RF:∀i,u.frozen? ⟨w.heap.size+1+1+1,i,none⟩=false
 a:Cl u na [.int .i64 a.k,.bool a.s,.int .i64 a.m,.int .i64 a.h,.int .i64 a.lo,.int .i64 a.hi]
 b:Cl u nb [.int .i64 b.k,.bool b.s,.int .i64 b.m,.int .i64 b.h,.int .i64 b.lo,.int .i64 b.hi]
 G:Arr u g (8*6) (vF V)
theorem AcP.below{w u v:World}{bH nH cH bR nR cR g cg:Nat}{z c op d ra rb imm h:Int}{na nb:Nat}{a b:VV}{V:Nat->VV}(p:AcP w u bH nH cH bR nR cR g cg z c op d ra rb imm h na nb a b V)(hb:Below u.heap.size u v):AcP w v bH nH cH bR nR cR g cg z c op d ra rb imm h na nb a b V:=
 ⟨p.bel.trans (hb.mono (Nat.le_of_lt p.G.lt)),p.S.below hb,p.A.below hb,p.I.below hb,p.R.below hb,fun i=>(hb.frozen (p:=⟨w.heap.size+1+1+1,i,none⟩) p.R.1).trans (p.RF i),p.a.below hb,p.b.below hb,p.G.below hb p.G.lt⟩
theorem AcP.put{w u:World}{bH nH cH bR nR cR g cg:Nat}{z c op d ra rb imm h:Int}{na nb:Nat}{a b:VV}{V:Nat->VV}(p:AcP w u bH nH cH bR nR cR g cg z c op d ra rb imm h na nb a b V)(hg:g<w.heap.size)(ha:w.heap.size<=na)(hb:w.heap.size<=nb){di:Nat}(hd:di<8)(r:VV):AcP w (put6 u g (di*6) r) bH nH cH bR nR cR g cg z c op d ra rb imm h na nb a b (updV V di r):=
 ⟨below_put6 p.bel (Nat.le_refl _) r,cl_put6 p.S (by omega) r,cl_put6 p.A (by omega) r,cl_put6 p.I (by omega) r,cl_put6 p.R (by omega) r,fun i=>(fz_put6 r).trans (p.RF i),cl_put6 p.a (by omega) r,cl_put6 p.b (by omega) r,regs_set p.G hd r⟩
theorem cl6{u:World}{q:Nat}{a:VV}(h:Cl u q [.int .i64 a.k,.bool a.s,.int .i64 a.m,.int .i64 a.h,.int .i64 a.lo,.int .i64 a.hi]):u.cell? ⟨q,0,none⟩=some (.int .i64 a.k)/\u.cell? ⟨q,1,none⟩=some (.bool a.s)/\u.cell? ⟨q,2,none⟩=some (.int .i64 a.m)/\u.cell? ⟨q,3,none⟩=some (.int .i64 a.h)/\u.cell? ⟨q,4,none⟩=some (.int .i64 a.lo)/\u.cell? ⟨q,5,none⟩=some (.int .i64 a.hi):=
 ⟨h.2 0 (by simp),h.2 1 (by simp),h.2 2 (by simp),h.2 3 (by simp),h.2 4 (by simp),h.2 5 (by simp)⟩
theorem reg_cells{u:World}{g:Nat}{V:Nat->VV}(h:Arr u g (8*6) (vF V))(i:Nat)(hi:i<8):u.cell? ⟨g,i*6,none⟩=some (.int .i64 (V i).k)/\u.cell? ⟨g,i*6+1,none⟩=some (.bool (V i).s)/\u.cell? ⟨g,i*6+2,none⟩=some (.int .i64 (V i).m)/\u.cell? ⟨g,i*6+3,none⟩=some (.int .i64 (V i).h)/\u.cell? ⟨g,i*6+4,none⟩=some (.int .i64 (V i).lo)/\u.cell? ⟨g,i*6+5,none⟩=some (.int .i64 (V i).hi):=
 ⟨(h.cell (i:=i*6+0) (by omega)).trans (congrArg some (vF_at V i 0 (by omega))),(h.cell (i:=i*6+1) (by omega)).trans (congrArg some (vF_at V i 1 (by omega))),(h.cell (i:=i*6+2) (by omega)).trans (congrArg some (vF_at V i 2 (by omega))),(h.cell (i:=i*6+3) (by omega)).trans (congrArg some (vF_at V i 3 (by omega))),(h.cell (i:=i*6+4) (by omega)).trans (congrArg some (vF_at V i 4 (by omega))),(h.cell (i:=i*6+5) (by omega)).trans (congrArg some (vF_at V i 5 (by omega)))⟩
theorem hs_at{u:World}{bH nH:Nat}{S:Nat->HS}(h:Arr u bH (nH*3) (hsF S)){q:Nat}(hq:q<nH):u.cell? ⟨bH,q*3,none⟩=some (.int .i64 (S q).size)/\u.cell? ⟨bH,q*3+1,none⟩=some (.bool (S q).s)/\u.cell? ⟨bH,q*3+2,none⟩=some (.bool (S q).w):=
 ⟨(h.cell (i:=q*3+0) (by omega)).trans (congrArg some (hsF_at S q 0 (by omega))),(h.cell (i:=q*3+1) (by omega)).trans (congrArg some (hsF_at S q 1 (by omega))),(h.cell (i:=q*3+2) (by omega)).trans (congrArg some (hsF_at S q 2 (by omega)))⟩
end Go.Proofs.Ytplnpgohdgialaa
