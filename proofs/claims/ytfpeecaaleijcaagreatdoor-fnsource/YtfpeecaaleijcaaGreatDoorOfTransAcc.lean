import Derived.Test.YtfpeecaaleijcaaGreatDoorOfCl
import Derived.Test.YtfpeecaaleijcaaGreatDoorOfTransSum
import Derived.Test.YtfpeecaaleijcaaGreatDoorOfValBlock
import Derived.Test.YtfpeecaaleijcaaGreatDoorOfTransMath
import Derived.Test.YtfpeecaaleijcaaGreatDoorOfInsSame
import Derived.Deep.Cut
import Derived.Deep.DeepCutAuto
set_option maxHeartbeats 4000000
set_option maxRecDepth 20000
namespace Go.Proofs.YtfpeecaaleijcaaGreatDoor
open Go.RowKit
variable {d h imm op ra rb:Int}{a:VV}{u:World}
structure WQ(w u:World)(op d ra rb imm h:Int)(a b:VV):Prop where
 bel:Below w.heap.size w u
 I:Cl u w.heap.size [Vi op,Vi d,Vi ra,Vi rb,Vi imm,Vi h]
 A:Vb u (w.heap.size+1) a
 B:Vb u (w.heap.size+1+1) b
 R:Vb u (w.heap.size+1+1+1) zV
 oR:w.heap.size<=w.heap.size+1+1+1
theorem WQ.below{w v:World}{b:VV}(p:WQ w u op d ra rb imm h a b)(hb:Below u.heap.size u v):WQ w v op d ra rb imm h a b:=
 ⟨p.bel.trans (hb.mono p.bel.size),p.I.below hb,p.A.below hb p.A.lt,p.B.below hb p.B.lt,p.R.below hb p.R.lt,p.oR⟩
theorem WQ.S{w:World}{b:VV}(p:WQ w u op d ra rb imm h a b):Vb u (w.heap.size+1) a/\Vb u (w.heap.size+1+1) b/\u.cell? ⟨w.heap.size,4,none⟩=some (Vi imm):=⟨p.A,p.B,p.I.2 4 (by simp)⟩
theorem Hw{q b o:Nat}{x:VV}(h:b≠q):(Hr u q x).cell? (Va b o)=u.cell? (Va b o):=by
 have e:∀(v:World)(j:Nat)(y:Value),(v.setCell (Va q j) y).cell? (Va b o)=v.cell? (Va b o):=fun v j y=>World.cell?_setCell_other _ _ _ _ (fun e=>h (congrArg Addr.block e).symm)
 unfold Hr;rw[e,e,e,e,e,e]
theorem AX{b:Nat}(p:Cl u b [Vi op,Vi d,Vi ra,Vi rb,Vi imm,Vi h]):u.cell? (Va b 0)=some (Vi op)/\u.cell? (Va b 1)=some (Vi d)/\u.cell? (Va b 2)=some (Vi ra)/\u.cell? (Va b 3)=some (Vi rb)/\u.cell? (Va b 4)=some (Vi imm)/\u.cell? (Va b 5)=some (Vi h):=
 ⟨p.2 0 (by simp),p.2 1 (by simp),p.2 2 (by simp),p.2 3 (by simp),p.2 4 (by simp),p.2 5 (by simp)⟩
def WQ.al{w u:World}{op d ra rb imm h:Int}{a b:VV}(p:WQ w u op d ra rb imm h a b):=PProd.mk (AX p.I) (PProd.mk p.A.cells (PProd.mk p.B.cells (PProd.mk p.R.cells (PProd.mk p.R.free (PProd.mk p.R.lt p.A.free)))))
theorem Km(h:0<=Ao a)(ha:Bd a):0<=a.m/\a.m<=1099511627776:=by
 refine⟨?_,ha.m1⟩;unfold Ao at h;split at h<;>omega
theorem KP(i:Int)(w:World)(h0:0<=i)(h1:i<=63):Calls Tryz.prog 190 #[Vi i] w fun e w'=>e=.returned (.int .u64 ((2^i.toNat:Nat):Int))/\w'=w:=by
 obtain⟨n,rfl⟩:∃n:Nat,i=n:=⟨i.toNat,by omega⟩
 exact WK n w (by omega)
theorem ah{i:Int}(h0:0<=i)(h1:i<=40):∃pw:Int,((2^i.toNat:Nat):Int)=pw/\1<=pw/\pw<=1099511627776:=by
 refine⟨_,rfl,?_,?_⟩
 ·have:=Nat.two_pow_pos i.toNat;omega
 ·have:2^i.toNat<=2^40:=Nat.pow_le_pow_right (by decide) (by omega)
  have e:(2:Nat)^40=1099511627776:=by decide
  omega
theorem fZ{i:Int}(h0:0<=i)(h1:i<=63):∃pw:Int,((2^i.toNat:Nat):Int)=pw/\1<=pw/\pw<=9223372036854775808:=by
 refine⟨_,rfl,?_,?_⟩
 ·have:=Nat.two_pow_pos i.toNat;omega
 ·have:2^i.toNat<=2^63:=Nat.pow_le_pow_right (by decide) (by omega)
  have e:(2:Nat)^63=9223372036854775808:=by decide
  omega
theorem dF{m p:Int}(h0:0<=m)(h1:m<=1099511627776)(hp:1<=p):∃y:Int,m/p=y/\0<=y/\y<=1099511627776:=
 ⟨_,rfl,Int.ediv_nonneg h0 (by omega),Int.le_trans (Int.ediv_le_self _ h0) h1⟩
theorem DJ(w:World)(a b:VV):∃u,(((w.alloc (.cells #[Vi op,Vi d,Vi ra,Vi rb,Vi imm,Vi h] 87)).alloc (.cells #[Vi a.k,.bool a.s,Vi a.m,Vi a.h,Vi a.lo,Vi a.hi] 42)).alloc (.cells #[Vi b.k,.bool b.s,Vi b.m,Vi b.h,Vi b.lo,Vi b.hi] 42)).alloc (.cells #[Vi 0,.bool false,Vi 0,Vi 0,Vi 0,Vi 0] 42)=u/\WQ w u op d ra rb imm h a b:=by
 have e1:=Vb.new (w.alloc (.cells #[Vi op,Vi d,Vi ra,Vi rb,Vi imm,Vi h] 87)) a;have e2:=Vb.new ((w.alloc (.cells #[Vi op,Vi d,Vi ra,Vi rb,Vi imm,Vi h] 87)).alloc (.cells #[Vi a.k,.bool a.s,Vi a.m,Vi a.h,Vi a.lo,Vi a.hi] 42)) b;have e3:=Vb.new (((w.alloc (.cells #[Vi op,Vi d,Vi ra,Vi rb,Vi imm,Vi h] 87)).alloc (.cells #[Vi a.k,.bool a.s,Vi a.m,Vi a.h,Vi a.lo,Vi a.hi] 42)).alloc (.cells #[Vi b.k,.bool b.s,Vi b.m,Vi b.h,Vi b.lo,Vi b.hi] 42)) zV;simp only[World.size_alloc]at e1 e2 e3;refine⟨_,rfl,?_,?_,?_,?_,e3,by omega⟩
 ·exact(((Ak).alloc (by simp) _).alloc (by simp;omega) _).alloc (by simp;omega) _
 ·exact(((Cl.new).below Ak).below Ak).below Ak
 ·exact(e1.below Ak e1.lt).below Ak (by simp)
 ·exact e2.below Ak e2.lt
theorem UL(d ra rb imm h:Int)(a b:VV)(s:Bool)(w:World):
 Calls Tryz.prog 164 #[.agg #[Vi 1,Vi d,Vi ra,Vi rb,Vi imm,Vi h],.agg #[Vi a.k,.bool a.s,Vi a.m,Vi a.h,Vi a.lo,Vi a.hi],.agg #[Vi b.k,.bool b.s,Vi b.m,Vi b.h,Vi b.lo,Vi b.hi],.bool s] w fun e w'=>e=.returned (Cb 1 imm a b s).v/\Below w.heap.size w w':=by
 go_enter Tryz.func164,Tryz.ntmps164;go_upto_region 1 with fail;obtain⟨u0,hu,pu⟩:=DJ w (op:=1) (d:=d) (ra:=ra) (rb:=rb) (imm:=imm) (h:=h) a b;rw[hu];have P0:=hxy pu;clear hu pu;obtain⟨⟨i0,i1,i2,i3,i4,i5⟩,⟨a0,a1,a2,a3,a4,a5⟩,⟨b0,b1,b2,b3,b4,b5⟩,⟨r0,r1,r2,r3,r4,r5⟩,rf,rl,af⟩:=P0.out.al;go_wp2;exact bodyPost_ret (v:=VV.v a) (by simp[results,Tryz.results164,go_sem,VV.v, *]) rfl ⟨congrArg (fun v=>Ending.returned (VV.v v)) (by simp[Cb]),Al P0.out.bel P0.out.oR a⟩
theorem Uk(d ra rb imm h:Int)(a b:VV)(s:Bool)(w:World):
 Calls Tryz.prog 164 #[.agg #[Vi 2,Vi d,Vi ra,Vi rb,Vi imm,Vi h],.agg #[Vi a.k,.bool a.s,Vi a.m,Vi a.h,Vi a.lo,Vi a.hi],.agg #[Vi b.k,.bool b.s,Vi b.m,Vi b.h,Vi b.lo,Vi b.hi],.bool s] w fun e w'=>e=.returned (Cb 2 imm a b s).v/\Below w.heap.size w w':=by
 go_enter Tryz.func164,Tryz.ntmps164;go_upto_region 1 with fail;obtain⟨u0,hu,pu⟩:=DJ w (op:=2) (d:=d) (ra:=ra) (rb:=rb) (imm:=imm) (h:=h) a b;rw[hu];have P0:=hxy pu;clear hu pu;obtain⟨⟨i0,i1,i2,i3,i4,i5⟩,⟨a0,a1,a2,a3,a4,a5⟩,⟨b0,b1,b2,b3,b4,b5⟩,⟨r0,r1,r2,r3,r4,r5⟩,rf,rl,af⟩:=P0.out.al;go_wp2_with fail;refine(Ap false imm _).mono ?_;rintro e u1⟨rfl,hb⟩;have P1:=hxy (P0.out.below hb);clear hb;clear i0 i1 i2 i3 i4 i5 a0 a1 a2 a3 a4 a5 b0 b1 b2 b3 b4 b5 r0 r1 r2 r3 r4 r5 rf rl af;simp only[VV.v];obtain⟨⟨i0,i1,i2,i3,i4,i5⟩,⟨a0,a1,a2,a3,a4,a5⟩,⟨b0,b1,b2,b3,b4,b5⟩,⟨r0,r1,r2,r3,r4,r5⟩,rf,rl,af⟩:=P1.out.al;go_wp2;exact bodyPost_ret (v:=VV.v (Az false imm)) (by simp[results,Tryz.results164,go_sem,VV.v, *]) rfl ⟨congrArg (fun v=>Ending.returned (VV.v v)) (by simp[Cb]),Al P1.out.bel P1.out.oR (Az false imm)⟩
end Go.Proofs.YtfpeecaaleijcaaGreatDoor
namespace Go.Proofs.YtfpeecaaleijcaaGreatDoor
open Go.RowKit Go.Deep
variable {c d h imm op ra rb z:Int}{nA nH nR:Nat}
def Eo(V:Nat->VV)(d:Nat)(r:VV)(i:Nat):VV:=if i=d then r else V i
def aj(w w':World)(e:Ending)(err:Int)(V:Nat->VV)(z c:Int):Prop:=
 (err≠0/\e=.returned (.agg #[Vi err,.slice none 0 0,Vi 0,Vi 0]))∨(err=0/\∃g cg,w.heap.size<=g/\e=.returned (.agg #[Vi 0,Vs g 8 cg,Vi z,Vi c])/\A9 w' g (8*6) (vF V))
structure Zc(w u:World)(bH nH cH bR nR cR bA nA cA:Nat)(z c op d ra rb imm h:Int):Prop where
 bel:Below w.heap.size w u
 S:Cl u w.heap.size [Vs bH nH cH,Vs bR nR cR]
 A:Cl u (w.heap.size+1) [Vs bA nA cA,Vi z,Vi c]
 I:Cl u (w.heap.size+1+1) [Vi op,Vi d,Vi ra,Vi rb,Vi imm,Vi h]
 R:Cl u (w.heap.size+1+1+1) [Vi 0,.slice none 0 0,Vi 0,Vi 0]
 RF:∀i,u.frozen? ⟨w.heap.size+1+1+1,i,none⟩=false
theorem Zc.below{w u v:World}{bH cH bR cR bA cA:Nat}(p:Zc w u bH nH cH bR nR cR bA nA cA z c op d ra rb imm h)(hb:Below u.heap.size u v):Zc w v bH nH cH bR nR cR bA nA cA z c op d ra rb imm h:=
 ⟨p.bel.trans (hb.mono p.bel.size),p.S.below hb,p.A.below hb,p.I.below hb,p.R.below hb,fun i=>(hb.frozen (p:=⟨w.heap.size+1+1+1,i,none⟩) p.R.1).trans (p.RF i)⟩
theorem MG(w:World)(bH nH cH bR nR cR bA nA cA:Nat):∃u,(((w.alloc (.cells #[Vs bH nH cH,Vs bR nR cR] 26)).alloc (.cells #[Vs bA nA cA,Vi z,Vi c] 136)).alloc (.cells #[Vi op,Vi d,Vi ra,Vi rb,Vi imm,Vi h] 87)).alloc (.cells #[Vi 0,.slice none 0 0,Vi 0,Vi 0] 231)=u/\Zc w u bH nH cH bR nR cR bA nA cA z c op d ra rb imm h:=by
 have e0:=Cl.new (w:=w) (vs:=#[Vs bH nH cH,Vs bR nR cR]) (t:=26);generalize hx:w.alloc (.cells #[Vs bH nH cH,Vs bR nR cR] 26)=x at *;have s0:x.heap.size=w.heap.size+1:=by rw[<-hx];simp
 have b0:Below w.heap.size w x:=by rw[<-hx];exact Ak
 clear hx;have e1:=Cl.new (w:=x) (vs:=#[Vs bA nA cA,Vi z,Vi c]) (t:=136);generalize hy:x.alloc (.cells #[Vs bA nA cA,Vi z,Vi c] 136)=y at *;have s1:y.heap.size=w.heap.size+1+1:=by rw[<-hy];simp[s0]
 have b1:Below x.heap.size x y:=by rw[<-hy];exact Ak
 clear hy;have e2:=Cl.new (w:=y) (vs:=#[Vi op,Vi d,Vi ra,Vi rb,Vi imm,Vi h]) (t:=87);generalize hz:y.alloc (.cells #[Vi op,Vi d,Vi ra,Vi rb,Vi imm,Vi h] 87)=v at *;have s2:v.heap.size=w.heap.size+1+1+1:=by rw[<-hz];simp[s1]
 have b2:Below y.heap.size y v:=by rw[<-hz];exact Ak
 clear hz;have e3:=Cl.new (w:=v) (vs:=#[Vi 0,.slice none 0 0,Vi 0,Vi 0]) (t:=231);have f3:∀i,(v.alloc (.cells #[Vi 0,.slice none 0 0,Vi 0,Vi 0] 231)).frozen? ⟨v.heap.size,i,none⟩=false:=fun i=>by simp[go_sem]
 have b3:Below v.heap.size v (v.alloc (.cells #[Vi 0,.slice none 0 0,Vi 0,Vi 0] 231)):=Ak;have c0:=(e0.below b1).below b2;have c1:=e1.below b2;rw[s0]at c1;rw[s1]at e2;rw[s2]at e3 f3;exact⟨_,rfl,((b0.trans (b1.mono (by omega))).trans (b2.mono (by omega))).trans (b3.mono (by omega)),c0.below b3,c1.below b3,e2.below b3,e3,f3⟩
theorem Br{w u:World}{bH cH bR cR bA cA:Nat}(p:Zc w u bH nH cH bR nR cR bA nA cA z c op d ra rb imm h):(u.cell? ⟨w.heap.size,0,none⟩=some (Vs bH nH cH)/\u.cell? ⟨w.heap.size,1,none⟩=some (Vs bR nR cR))/\(u.cell? ⟨w.heap.size+1,0,none⟩=some (Vs bA nA cA)/\u.cell? ⟨w.heap.size+1,1,none⟩=some (Vi z)/\u.cell? ⟨w.heap.size+1,2,none⟩=some (Vi c))/\(u.cell? ⟨w.heap.size+1+1+1,0,none⟩=some (Vi 0)/\u.cell? ⟨w.heap.size+1+1+1,1,none⟩=some (.slice none 0 0)/\u.cell? ⟨w.heap.size+1+1+1,2,none⟩=some (Vi 0)/\u.cell? ⟨w.heap.size+1+1+1,3,none⟩=some (Vi 0)):=
 ⟨⟨p.S.2 0 (by simp),p.S.2 1 (by simp)⟩,⟨p.A.2 0 (by simp),p.A.2 1 (by simp),p.A.2 2 (by simp)⟩,p.R.2 0 (by simp),p.R.2 1 (by simp),p.R.2 2 (by simp),p.R.2 3 (by simp)⟩
theorem GU{v:VV}{n:Int}(h:CO v n=true):Bd v:=by
 unfold CO at h;split at h
 ·rename_i hk
  have q:=of_decide_eq_true h;exact⟨q.1,q.2.1,by omega,by omega,by omega,by omega,Or.inl hk⟩
 ·have q:=of_decide_eq_true h
  exact⟨by omega,by omega,by omega,by omega,by omega,by omega,Or.inr q.1⟩
theorem QG{v:VV}{n:Int}(h:CO v n=true)(hk:v.k=1):0<=v.h/\v.h<n:=by
 unfold CO at h;rw[if_neg (by omega)]at h;have q:=of_decide_eq_true h;omega
theorem OX{S:Nat->HS}{V0 V:Nat->VV}(h:BA nH S nR V0 nA V z c=true):nA=8/\nH<=8/\∀i,i<8->CO (V i) nH=true:=by
 unfold BA at h;simp only[Bool.and_eq_true]at h;obtain⟨⟨⟨hs,hg⟩,_⟩,_⟩:=h;have h8:=VA hs;unfold Cq at hg;rw[Bool.and_eq_true]at hg;have hn:=of_decide_eq_true hg.1;refine⟨hn,h8,fun i hi=>?_⟩;have:=List.all_eq_true.1 hg.2 i (List.mem_range.2 (by omega));exact this
theorem Y2(e:Ar op d ra rb imm h=true)(o:op<=28):1<=op/\0<=d/\d<=7/\0<=ra/\ra<=7/\0<=rb/\rb<=7/\0<=h/\h<=7/\ -1000000<=imm/\imm<=1000000/\(op=12∨op=13->0<=imm/\imm<=63):=by
 unfold Ar at e;have f:∀(u:Bool)(v lo hi:Int),C8 u v lo hi=true->(lo<=v/\v<=hi)∨v=0:=fun u v lo hi h=>by
  unfold C8 Ec at h;cases u<;>simp at h<;>omega
 simp only[Bool.and_eq_true]at e;obtain⟨⟨⟨⟨⟨e1,e2⟩,e3⟩,e4⟩,e5⟩,e6⟩:=e;have g1:1<=op:=by unfold Ec at e1;simp at e1;omega
 have i1: -1000000<=CX op/\Ca op<=1000000:=by unfold CX Ca;(repeat' split)<;>omega
 have i2:op=12∨op=13->CX op=0/\Ca op=63:=fun h=>by unfold CX Ca;rw[if_pos (by omega),if_pos h];exact⟨rfl,rfl⟩
 have:=f _ _ _ _ e2;have:=f _ _ _ _ e3;have:=f _ _ _ _ e4;have:=f _ _ _ _ e5;have:=f _ _ _ _ e6;refine⟨g1,by omega,by omega,by omega,by omega,by omega,by omega,by omega,by omega,by omega,by omega,fun h=>?_⟩;have:=i2 h;omega
end Go.Proofs.YtfpeecaaleijcaaGreatDoor
namespace Go.Proofs.YtfpeecaaleijcaaGreatDoor
open Go.RowKit
variable {b bH g nH o:Nat}{V:Nat->VV}{a:VV}{u w:World}
def dP(w':World)(g cg:Nat)(e:Ending)(err:Int)(V:Nat->VV)(z c:Int):Prop:=
 (err≠0/\e=.returned (.agg #[Vi err,.slice none 0 0,Vi 0,Vi 0]))∨(err=0/\e=.returned (.agg #[Vi 0,Vs g 8 cg,Vi z,Vi c])/\A9 w' g (8*6) (vF V))
def put6(w:World)(b o:Nat)(r:VV):World:=(((((w.setCell (Va b o) (Vi r.k)).setCell (Va b (o+1)) (.bool r.s)).setCell (Va b (o+2)) (Vi r.m)).setCell (Va b (o+3)) (Vi r.h)).setCell (Va b (o+4)) (Vi r.lo)).setCell (Va b (o+5)) (Vi r.hi)
theorem Jp(h:A9 w b (8*6) (vF V)){d:Nat}(hd:d<8)(r:VV):A9 (put6 w b (d*6) r) b (8*6) (vF (Eo V d r)):=by
 refine(A9.set1 (A9.set1 (A9.set1 (A9.set1 (A9.set1 (A9.set1 h (d*6) (by omega) _) (d*6+1) (by omega) _) (d*6+2) (by omega) _) (d*6+3) (by omega) _) (d*6+4) (by omega) _) (d*6+5) (by omega) _).congr (fun i hi=>?_);have hx:=Nat.div_add_mod i 6;have hm:i%6<6:=Nat.mod_lt _ (by decide);simp only[vF,Eo];generalize i/6=kk at *;generalize i%6=jj at *;by_cases hk:kk=d
 ·subst hk
  rw[if_pos rfl];match jj,hm with
  |0,_=>rw[if_neg (by omega),if_neg (by omega),if_neg (by omega),if_neg (by omega),if_neg (by omega),if_pos (by omega)];rfl
  |1,_=>rw[if_neg (by omega),if_neg (by omega),if_neg (by omega),if_neg (by omega),if_pos (by omega)];rfl
  |2,_=>rw[if_neg (by omega),if_neg (by omega),if_neg (by omega),if_pos (by omega)];rfl
  |3,_=>rw[if_neg (by omega),if_neg (by omega),if_pos (by omega)];rfl
  |4,_=>rw[if_neg (by omega),if_pos (by omega)];rfl
  |5,_=>rw[if_pos (by omega)];rfl
 ·rw[if_neg hk]
  iterate 6 rw[if_neg (by omega)]
theorem Md{B:Nat}{w0:World}(h:Below B w0 w)(hb:B<=b)(r:VV):Below B w0 (put6 w b o r):=by
 unfold put6;exact(((((h.setCell hb _).setCell hb _).setCell hb _).setCell hb _).setCell hb _).setCell hb _
theorem Dp{c:Nat}{vs:List Value}(h:Cl w c vs)(hne:b≠c)(r:VV):Cl (put6 w b o r) c vs:=
 ⟨by unfold put6;simpa using h.1,fun i hi=>by unfold put6;(iterate 6 refine(World.cell?_setCell_far _ _ _ _ hne).trans ?_);exact h.2 i hi⟩
theorem QM{a:Addr}(r:VV):(put6 w b o r).frozen? a=w.frozen? a:=by unfold put6;simp
theorem Um(V:Nat->VV)(d:Nat)(r s:VV):Eo (Eo V d r) d s=Eo V d s:=by funext i;unfold Eo;split<;>rfl
structure aA(w u:World)(bH nH cH bR nR cR g cg:Nat)(z c op d ra rb imm h:Int)(na nb:Nat)(a b:VV)(V:Nat->VV):Prop where
 bel:Below g w u
 S:Cl u w.heap.size [Vs bH nH cH,Vs bR nR cR]
 A:Cl u (w.heap.size+1) [Vs g 8 cg,Vi z,Vi c]
 I:Cl u (w.heap.size+1+1) [Vi op,Vi d,Vi ra,Vi rb,Vi imm,Vi h]
 R:Cl u (w.heap.size+1+1+1) [Vi 0,.slice none 0 0,Vi 0,Vi 0]
 RF:∀i,u.frozen? ⟨w.heap.size+1+1+1,i,none⟩=false
 a:Cl u na [Vi a.k,.bool a.s,Vi a.m,Vi a.h,Vi a.lo,Vi a.hi]
 b:Cl u nb [Vi b.k,.bool b.s,Vi b.m,Vi b.h,Vi b.lo,Vi b.hi]
 G:A9 u g (8*6) (vF V)
theorem aA.below{v:World}{cH bR nR cR cg:Nat}{z c op d ra rb imm h:Int}{na nb:Nat}{b:VV}(p:aA w u bH nH cH bR nR cR g cg z c op d ra rb imm h na nb a b V)(hb:Below u.heap.size u v):aA w v bH nH cH bR nR cR g cg z c op d ra rb imm h na nb a b V:=
 ⟨p.bel.trans (hb.mono (Nat.le_of_lt p.G.lt)),p.S.below hb,p.A.below hb,p.I.below hb,p.R.below hb,fun i=>(hb.frozen (p:=⟨w.heap.size+1+1+1,i,none⟩) p.R.1).trans (p.RF i),p.a.below hb,p.b.below hb,p.G.below hb p.G.lt⟩
theorem aA.put{cH bR nR cR cg:Nat}{z c op d ra rb imm h:Int}{na nb:Nat}{b:VV}(p:aA w u bH nH cH bR nR cR g cg z c op d ra rb imm h na nb a b V)(hg:g<w.heap.size)(ha:w.heap.size<=na)(hb:w.heap.size<=nb){di:Nat}(hd:di<8)(r:VV):aA w (put6 u g (di*6) r) bH nH cH bR nR cR g cg z c op d ra rb imm h na nb a b (Eo V di r):=
 ⟨Md p.bel jG r,Dp p.S (by omega) r,Dp p.A (by omega) r,Dp p.I (by omega) r,Dp p.R (by omega) r,fun i=>(QM r).trans (p.RF i),Dp p.a (by omega) r,Dp p.b (by omega) r,Jp p.G hd r⟩
theorem Ip{q:Nat}(h:Cl u q [Vi a.k,.bool a.s,Vi a.m,Vi a.h,Vi a.lo,Vi a.hi]):u.cell? (Va q 0)=some (Vi a.k)/\u.cell? (Va q 1)=some (.bool a.s)/\u.cell? (Va q 2)=some (Vi a.m)/\u.cell? (Va q 3)=some (Vi a.h)/\u.cell? (Va q 4)=some (Vi a.lo)/\u.cell? (Va q 5)=some (Vi a.hi):=
 ⟨h.2 0 (by simp),h.2 1 (by simp),h.2 2 (by simp),h.2 3 (by simp),h.2 4 (by simp),h.2 5 (by simp)⟩
theorem Cm(h:A9 u g (8*6) (vF V))(i:Nat)(hi:i<8):u.cell? (Va g (i*6))=some (Vi (V i).k)/\u.cell? (Va g (i*6+1))=some (.bool (V i).s)/\u.cell? (Va g (i*6+2))=some (Vi (V i).m)/\u.cell? (Va g (i*6+3))=some (Vi (V i).h)/\u.cell? (Va g (i*6+4))=some (Vi (V i).lo)/\u.cell? (Va g (i*6+5))=some (Vi (V i).hi):=
 ⟨(h.cell (i:=i*6+0) (by omega)).trans (congrArg some (BH V i 0 (by omega))),(h.cell (i:=i*6+1) (by omega)).trans (congrArg some (BH V i 1 (by omega))),(h.cell (i:=i*6+2) (by omega)).trans (congrArg some (BH V i 2 (by omega))),(h.cell (i:=i*6+3) (by omega)).trans (congrArg some (BH V i 3 (by omega))),(h.cell (i:=i*6+4) (by omega)).trans (congrArg some (BH V i 4 (by omega))),(h.cell (i:=i*6+5) (by omega)).trans (congrArg some (BH V i 5 (by omega)))⟩
theorem XQ{S:Nat->HS}(h:A9 u bH (nH*3) (QD S)){q:Nat}(hq:q<nH):u.cell? (Va bH (q*3))=some (Vi (S q).size)/\u.cell? (Va bH (q*3+1))=some (.bool (S q).s)/\u.cell? (Va bH (q*3+2))=some (.bool (S q).w):=
 ⟨(h.cell (i:=q*3+0) (by omega)).trans (congrArg some (Dy S q 0 (by omega))),(h.cell (i:=q*3+1) (by omega)).trans (congrArg some (Dy S q 1 (by omega))),(h.cell (i:=q*3+2) (by omega)).trans (congrArg some (Dy S q 2 (by omega)))⟩
end Go.Proofs.YtfpeecaaleijcaaGreatDoor
