import Derived.Test.YtbahofiiaodpdaaGreatOfTransRofC
import Derived.Test.YtbahofiiaodpdaaGreatOfAppOwn
import Derived.Test.YtbahofiiaodpdaaGreatOfInsSame
import Derived.Deep.MidRow
set_option maxHeartbeats 8000000
set_option maxRecDepth 20000
namespace Go.Proofs.YtbahofiiaodpdaaGreat
open Go.RowKit
def fF(V:Nat->VV)(z c:Int)(i:Nat):Value:=if i<48 then vF V i else if i=48 then .int .i64 z else .int .i64 c
def facA(V:Nat->VV)(z c:Int):Array Value:=(first 50 (fF V z c)).toArray
theorem Arr.newFirst(w:World)(n:Nat)(f:Nat->Value)(t:TypeId):Arr (w.alloc (.cells (first n f).toArray t)) w.heap.size n f:=by
 refine⟨by simp,fun i=>by simp[go_sem],fun i hi=>?_⟩;have e:(first n f)[i]?=some (f i):=by simp[first,hi]
 simp[go_sem,e]
theorem fF_val(V:Nat->VV)(z c:Int)(k j:Nat)(hk:k<8)(hj:j<6):fF V z c (k*6+j)=vC (V k) j:=by
 unfold fF;rw[if_pos (by omega),vF_at V k j hj]
def oL(a b:VV)(fl:Int)(sec:Bool):List Value:=[.int .i64 a.k,.bool a.s,.int .i64 a.m,.int .i64 a.h,.int .i64 a.lo,.int .i64 a.hi,.int .i64 b.k,.bool b.s,.int .i64 b.m,.int .i64 b.h,.int .i64 b.lo,.int .i64 b.hi,.int .i64 fl,.bool sec]
def oC(a b:VV)(fl:Int)(sec:Bool)(i:Nat):Value:=(oL a b fl sec).getD i undef
def Ob(w:World)(q:Nat)(a b:VV)(fl:Int)(sec:Bool):Prop:=Arr w q 14 (oC a b fl sec)
theorem Ob.new(w:World)(a b:VV)(fl:Int)(sec:Bool)(t:TypeId):Ob (w.alloc (.cells #[.int .i64 a.k,.bool a.s,.int .i64 a.m,.int .i64 a.h,.int .i64 a.lo,.int .i64 a.hi,.int .i64 b.k,.bool b.s,.int .i64 b.m,.int .i64 b.h,.int .i64 b.lo,.int .i64 b.hi,.int .i64 fl,.bool sec] t)) w.heap.size a b fl sec:=
 ⟨by simp,fun i=>by simp[go_sem],fun i hi=>(Cl.new (w:=w) (vs:=#[.int .i64 a.k,.bool a.s,.int .i64 a.m,.int .i64 a.h,.int .i64 a.lo,.int .i64 a.hi,.int .i64 b.k,.bool b.s,.int .i64 b.m,.int .i64 b.h,.int .i64 b.lo,.int .i64 b.hi,.int .i64 fl,.bool sec]) (t:=t)).2 i hi⟩
theorem Ob.cells{u:World}{q:Nat}{a b:VV}{fl:Int}{sec:Bool}(h:Ob u q a b fl sec):u.cell? ⟨q,0,none⟩=some (.int .i64 a.k)/\u.cell? ⟨q,1,none⟩=some (.bool a.s)/\u.cell? ⟨q,2,none⟩=some (.int .i64 a.m)/\u.cell? ⟨q,3,none⟩=some (.int .i64 a.h)/\u.cell? ⟨q,4,none⟩=some (.int .i64 a.lo)/\u.cell? ⟨q,5,none⟩=some (.int .i64 a.hi)/\u.cell? ⟨q,6,none⟩=some (.int .i64 b.k)/\u.cell? ⟨q,7,none⟩=some (.bool b.s)/\u.cell? ⟨q,8,none⟩=some (.int .i64 b.m)/\u.cell? ⟨q,9,none⟩=some (.int .i64 b.h)/\u.cell? ⟨q,10,none⟩=some (.int .i64 b.lo)/\u.cell? ⟨q,11,none⟩=some (.int .i64 b.hi)/\u.cell? ⟨q,12,none⟩=some (.int .i64 fl)/\u.cell? ⟨q,13,none⟩=some (.bool sec):=
 ⟨h.cell (i:=0) (by omega),h.cell (i:=1) (by omega),h.cell (i:=2) (by omega),h.cell (i:=3) (by omega),h.cell (i:=4) (by omega),h.cell (i:=5) (by omega),h.cell (i:=6) (by omega),h.cell (i:=7) (by omega),h.cell (i:=8) (by omega),h.cell (i:=9) (by omega),h.cell (i:=10) (by omega),h.cell (i:=11) (by omega),h.cell (i:=12) (by omega),h.cell (i:=13) (by omega)⟩
theorem fourteen{p:Nat->Prop}(h0:p 0)(h1:p 1)(h2:p 2)(h3:p 3)(h4:p 4)(h5:p 5)(h6:p 6)(h7:p 7)(h8:p 8)(h9:p 9)(h10:p 10)(h11:p 11)(h12:p 12)(h13:p 13):∀i,i<14->p i:=by
 intro i hi;match i,hi with
 |0,_=>exact h0
 |1,_=>exact h1
 |2,_=>exact h2
 |3,_=>exact h3
 |4,_=>exact h4
 |5,_=>exact h5
 |6,_=>exact h6
 |7,_=>exact h7
 |8,_=>exact h8
 |9,_=>exact h9
 |10,_=>exact h10
 |11,_=>exact h11
 |12,_=>exact h12
 |13,_=>exact h13
def putB(w:World)(b:Nat)(x:VV):World:=(((((w.setCell ⟨b,6,none⟩ (.int .i64 x.k)).setCell ⟨b,7,none⟩ (.bool x.s)).setCell ⟨b,8,none⟩ (.int .i64 x.m)).setCell ⟨b,9,none⟩ (.int .i64 x.h)).setCell ⟨b,10,none⟩ (.int .i64 x.lo)).setCell ⟨b,11,none⟩ (.int .i64 x.hi)
theorem Ob.setA{w:World}{q:Nat}{a b:VV}{fl:Int}{sec:Bool}(h:Ob w q a b fl sec)(x:VV):Ob (putV w q x) q x b fl sec:=
 (Arr.set1 (Arr.set1 (Arr.set1 (Arr.set1 (Arr.set1 (Arr.set1 h 0 (by omega) _) 1 (by omega) _) 2 (by omega) _) 3 (by omega) _) 4 (by omega) _) 5 (by omega) _).congr (fourteen rfl rfl rfl rfl rfl rfl rfl rfl rfl rfl rfl rfl rfl rfl)
theorem Ob.setB{w:World}{q:Nat}{a b:VV}{fl:Int}{sec:Bool}(h:Ob w q a b fl sec)(x:VV):Ob (putB w q x) q a x fl sec:=
 (Arr.set1 (Arr.set1 (Arr.set1 (Arr.set1 (Arr.set1 (Arr.set1 h 6 (by omega) _) 7 (by omega) _) 8 (by omega) _) 9 (by omega) _) 10 (by omega) _) 11 (by omega) _).congr (fourteen rfl rfl rfl rfl rfl rfl rfl rfl rfl rfl rfl rfl rfl rfl)
theorem Ob.setF{w:World}{q:Nat}{a b:VV}{fl:Int}{sec:Bool}(h:Ob w q a b fl sec)(x:Int):Ob (w.setCell ⟨q,12,none⟩ (.int .i64 x)) q a b x sec:=
 (Arr.set1 h 12 (by omega) _).congr (fourteen rfl rfl rfl rfl rfl rfl rfl rfl rfl rfl rfl rfl rfl rfl)
theorem Ob.setS{w:World}{q:Nat}{a b:VV}{fl:Int}{sec:Bool}(h:Ob w q a b fl sec)(x:Bool):Ob (w.setCell ⟨q,13,none⟩ (.bool x)) q a b fl x:=
 (Arr.set1 h 13 (by omega) _).congr (fourteen rfl rfl rfl rfl rfl rfl rfl rfl rfl rfl rfl rfl rfl rfl)
structure OoP(w u:World)(V:Nat->VV)(z c op d ra rb imm h:Int)(a b:VV)(fl:Int)(sec:Bool):Prop where
 bel:Below w.heap.size w u
 F:Arr u w.heap.size 50 (fF V z c)
 I:Cl u (w.heap.size+1) [.int .i64 op,.int .i64 d,.int .i64 ra,.int .i64 rb,.int .i64 imm,.int .i64 h]
 R:Ob u (w.heap.size+1+1) zV zV 0 false
 O:Ob u (w.heap.size+1+1+1) a b fl sec
theorem OoP.upd{w u v:World}{V:Nat->VV}{z c op d ra rb imm h:Int}{a b a' b':VV}{fl fl':Int}{sec sec':Bool}(p:OoP w u V z c op d ra rb imm h a b fl sec)(hb:Below (w.heap.size+1+1+1) u v)(ho:Ob v (w.heap.size+1+1+1) a' b' fl' sec'):OoP w v V z c op d ra rb imm h a' b' fl' sec':=
 ⟨p.bel.trans (hb.mono (by omega)),p.F.below hb (by omega),⟨Nat.lt_of_lt_of_le p.I.1 hb.size,fun i hi=>(hb.cell (p:=⟨w.heap.size+1,i,none⟩) (show w.heap.size+1<_ by omega)).trans (p.I.2 i hi)⟩,Arr.below p.R hb (by omega),ho⟩
theorem oo_pre(w:World)(V:Nat->VV)(z c:Int)(FA:Array Value)(hF:FA=facA V z c){op d ra rb imm h:Int}:∃u,(((w.alloc (.cells FA 70)).alloc (.cells #[.int .i64 op,.int .i64 d,.int .i64 ra,.int .i64 rb,.int .i64 imm,.int .i64 h] 30)).alloc (.cells #[.int .i64 0,.bool false,.int .i64 0,.int .i64 0,.int .i64 0,.int .i64 0,.int .i64 0,.bool false,.int .i64 0,.int .i64 0,.int .i64 0,.int .i64 0,.int .i64 0,.bool false] 112)).alloc (.cells #[.int .i64 0,.bool false,.int .i64 0,.int .i64 0,.int .i64 0,.int .i64 0,.int .i64 0,.bool false,.int .i64 0,.int .i64 0,.int .i64 0,.int .i64 0,.int .i64 1,.bool false] 112)=u/\OoP w u V z c op d ra rb imm h zV zV 1 false:=by
 subst hF;have e0:=Arr.newFirst w 50 (fF V z c) 70;generalize hx:w.alloc (.cells (facA V z c) 70)=x;have s0:x.heap.size=w.heap.size+1:=by rw[<-hx];simp
 rw[show w.alloc (.cells (first 50 (fF V z c)).toArray 70)=x from hx]at e0;have b0:Below w.heap.size w x:=by rw[<-hx];exact(Below.refl _ _).alloc (Nat.le_refl _) _
 clear hx;have e1:=Cl.new (w:=x) (vs:=#[.int .i64 op,.int .i64 d,.int .i64 ra,.int .i64 rb,.int .i64 imm,.int .i64 h]) (t:=30);generalize hy:x.alloc (.cells #[.int .i64 op,.int .i64 d,.int .i64 ra,.int .i64 rb,.int .i64 imm,.int .i64 h] 30)=y at *;have s1:y.heap.size=w.heap.size+1+1:=by rw[<-hy];simp[s0]
 have b1:Below x.heap.size x y:=by rw[<-hy];exact(Below.refl _ _).alloc (Nat.le_refl _) _
 clear hy;have e2:=Ob.new y zV zV 0 false 112;change∃u,(y.alloc (.cells #[.int .i64 zV.k,.bool zV.s,.int .i64 zV.m,.int .i64 zV.h,.int .i64 zV.lo,.int .i64 zV.hi,.int .i64 zV.k,.bool zV.s,.int .i64 zV.m,.int .i64 zV.h,.int .i64 zV.lo,.int .i64 zV.hi,.int .i64 0,.bool false] 112)).alloc _=u/\_;generalize hz:y.alloc (.cells #[.int .i64 zV.k,.bool zV.s,.int .i64 zV.m,.int .i64 zV.h,.int .i64 zV.lo,.int .i64 zV.hi,.int .i64 zV.k,.bool zV.s,.int .i64 zV.m,.int .i64 zV.h,.int .i64 zV.lo,.int .i64 zV.hi,.int .i64 0,.bool false] 112)=zz at *;have s2:zz.heap.size=w.heap.size+1+1+1:=by rw[<-hz];simp[s1]
 have b2:Below y.heap.size y zz:=by rw[<-hz];exact(Below.refl _ _).alloc (Nat.le_refl _) _
 clear hz;have e3:=Ob.new zz zV zV 1 false 112;have b3:Below zz.heap.size zz (zz.alloc (.cells #[.int .i64 zV.k,.bool zV.s,.int .i64 zV.m,.int .i64 zV.h,.int .i64 zV.lo,.int .i64 zV.hi,.int .i64 zV.k,.bool zV.s,.int .i64 zV.m,.int .i64 zV.h,.int .i64 zV.lo,.int .i64 zV.hi,.int .i64 1,.bool false] 112)):=(Below.refl _ _).alloc (Nat.le_refl _) _;rw[s0]at e1 b1;rw[s1]at e2 b2;rw[s2]at e3 b3;refine⟨_,rfl,((b0.trans (b1.mono (by omega))).trans (b2.mono (by omega))).trans (b3.mono (by omega)),((e0.below b1 (by omega)).below b2 (by omega)).below b3 (by omega),(e1.below (by rw[s1];exact b2)).below (by rw[s2];exact b3),Arr.below e2 b3 (by omega),e3⟩
theorem facts_info:(Tryz.prog.info? 70).map (·.size)=some 50:=by kernel_rfl
theorem exec_load{P:Program}{a:Act}{op:Oper}{w:World}(ty:TypeId)(x:Operand)(ho:op.op=.load ty x)(b o:Nat)(hx:a.eval x=.pointer (some ⟨b,o,none⟩)){v:Value}(hl:(Instr.loadAt ty (.pointer (some ⟨b,o,none⟩))).run P w=.ok v w):(execOp a.eval op).run P w=.ok (.value v) w:=by
 unfold execOp;simp only[ho,hx,Sem.run_bind,hl,Result.andThen_ok,Sem.run_pure]
theorem wpList_load_facts{ops:Array Oper}{rest:List Oper}{op:Oper}{a:Act}{w:World}{Q:Exit->Act->World->Prop}(hgd:op.guard=none)(x:Operand)(ho:op.op=.load 70 x)(b:Nat)(hx:a.eval x=.pointer (some ⟨b,0,none⟩))(V:Nat->VV)(z c:Int)(FA:Array Value)(hF:FA=facA V z c)(hc:Arr w b 50 (fF V z c))
 (h:wpList Tryz.prog ops Q rest (a.put op.dst (.agg FA)) w):wpList Tryz.prog ops Q (op::rest) a w:=by
 subst hF;exact wpList_load_mid hgd 70 x ho b 0 hx (first 50 (fF V z c)) _ (fun j v hv=>by obtain⟨hm,rfl⟩:=first_get hv;rw[Nat.zero_add];exact hc.cell hm) Tryz.underlying70 rfl (by rw[first_length];exact facts_info) h
def wdI(op:Int):Int:=if op=21∨op=23∨op=25∨op=27 then 1 else 8
theorem wdI_le(op:Int):1<=wdI op/\wdI op<=8:=by unfold wdI;split<;>omega
def stB(op:Int):Bool:=decide (op=23∨op=24∨op=27∨op=28)
def accI(op imm h:Int)(a b x:VV)(g:HS):Int:=
 if a.k≠1 then 3 else if a.h≠h then 4 else if b.s=true∨maxV b<0 then 5
 else if a.lo+imm<0∨g.size<a.hi+imm+b.m+wdI op then 6
 else if stB op=false then 0 else if g.w=false then 7 else if x.s=true/\g.s=false then 8 else 0
structure RaP(w u:World)(V:Nat->VV)(z c op d ra rb imm h:Int)(a b:VV)(fl:Int)(sec:Bool):Prop where
 bel:Below w.heap.size w u
 F:Arr u w.heap.size 50 (fF V z c)
 I:Cl u (w.heap.size+1) [.int .i64 op,.int .i64 d,.int .i64 ra,.int .i64 rb,.int .i64 imm,.int .i64 h]
 O:Cl u (w.heap.size+1+1) [.int .i64 a.k,.bool a.s,.int .i64 a.m,.int .i64 a.h,.int .i64 a.lo,.int .i64 a.hi,.int .i64 b.k,.bool b.s,.int .i64 b.m,.int .i64 b.h,.int .i64 b.lo,.int .i64 b.hi,.int .i64 fl,.bool sec]
theorem RaP.below{w u v:World}{V:Nat->VV}{z c op d ra rb imm h:Int}{a b:VV}{fl:Int}{sec:Bool}(p:RaP w u V z c op d ra rb imm h a b fl sec)(hb:Below u.heap.size u v):RaP w v V z c op d ra rb imm h a b fl sec:=
 ⟨p.bel.trans (hb.mono p.bel.size),p.F.below hb p.F.lt,p.I.below hb,p.O.below hb⟩
theorem ra_pre(w:World)(V:Nat->VV)(z c:Int)(FA:Array Value)(hF:FA=facA V z c){op d ra rb imm h:Int}(a b:VV)(fl:Int)(sec:Bool):∃u,((w.alloc (.cells FA 70)).alloc (.cells #[.int .i64 op,.int .i64 d,.int .i64 ra,.int .i64 rb,.int .i64 imm,.int .i64 h] 30)).alloc (.cells #[.int .i64 a.k,.bool a.s,.int .i64 a.m,.int .i64 a.h,.int .i64 a.lo,.int .i64 a.hi,.int .i64 b.k,.bool b.s,.int .i64 b.m,.int .i64 b.h,.int .i64 b.lo,.int .i64 b.hi,.int .i64 fl,.bool sec] 112)=u/\RaP w u V z c op d ra rb imm h a b fl sec:=by
 subst hF;have e0:=Arr.newFirst w 50 (fF V z c) 70;generalize hx:w.alloc (.cells (facA V z c) 70)=x;have s0:x.heap.size=w.heap.size+1:=by rw[<-hx];simp
 rw[show w.alloc (.cells (first 50 (fF V z c)).toArray 70)=x from hx]at e0;have b0:Below w.heap.size w x:=by rw[<-hx];exact(Below.refl _ _).alloc (Nat.le_refl _) _
 clear hx;have e1:=Cl.new (w:=x) (vs:=#[.int .i64 op,.int .i64 d,.int .i64 ra,.int .i64 rb,.int .i64 imm,.int .i64 h]) (t:=30);generalize hy:x.alloc (.cells #[.int .i64 op,.int .i64 d,.int .i64 ra,.int .i64 rb,.int .i64 imm,.int .i64 h] 30)=y at *;have s1:y.heap.size=w.heap.size+1+1:=by rw[<-hy];simp[s0]
 have b1:Below x.heap.size x y:=by rw[<-hy];exact(Below.refl _ _).alloc (Nat.le_refl _) _
 clear hy;have e2:=Cl.new (w:=y) (vs:=#[.int .i64 a.k,.bool a.s,.int .i64 a.m,.int .i64 a.h,.int .i64 a.lo,.int .i64 a.hi,.int .i64 b.k,.bool b.s,.int .i64 b.m,.int .i64 b.h,.int .i64 b.lo,.int .i64 b.hi,.int .i64 fl,.bool sec]) (t:=112);have b2:Below y.heap.size y (y.alloc (.cells #[.int .i64 a.k,.bool a.s,.int .i64 a.m,.int .i64 a.h,.int .i64 a.lo,.int .i64 a.hi,.int .i64 b.k,.bool b.s,.int .i64 b.m,.int .i64 b.h,.int .i64 b.lo,.int .i64 b.hi,.int .i64 fl,.bool sec] 112)):=(Below.refl _ _).alloc (Nat.le_refl _) _;rw[s0]at e1 b1;rw[s1]at e2 b2;exact⟨_,rfl,(b0.trans (b1.mono (by omega))).trans (b2.mono (by omega)),(e0.below b1 (by omega)).below b2 (by omega),e1.below (by rw[s1];exact b2),e2⟩
theorem refAcc_any(V:Nat->VV)(z c:Int)(FA:Array Value)(hF:FA=facA V z c)(op ra rb imm:Int)(di q:Nat)(hd:di<8)(a b:VV)(fl:Int)(sec:Bool)(bH cH nH:Nat)(S:Nat->HS)(w:World)(_lH:nH<=1048576)(hqi:a.k=1->a.h=(q:Int)->q<nH)(hh:Arr w bH (nH*3) (hsF S))(ha:Bd a)(hb:Bd b)(n0: -1000000<=imm)(n1:imm<=1000000):
 Calls Tryz.prog 83 #[.agg FA,.agg #[.int .i64 op,.int .i64 (di:Int),.int .i64 ra,.int .i64 rb,.int .i64 imm,.int .i64 (q:Int)],.agg #[.int .i64 a.k,.bool a.s,.int .i64 a.m,.int .i64 a.h,.int .i64 a.lo,.int .i64 a.hi,.int .i64 b.k,.bool b.s,.int .i64 b.m,.int .i64 b.h,.int .i64 b.lo,.int .i64 b.hi,.int .i64 fl,.bool sec],.slice (some ⟨bH,0,none⟩) nH cH] w fun e w'=>e=.returned (.int .i64 (accI op imm (q:Int) a b (V di) (S q)))/\Below w.heap.size w w':=by
 obtain⟨res,hres⟩:∃r,accI op imm (q:Int) a b (V di) (S q)=r:=⟨_,rfl⟩
 rw[hres]
 have HR:Hid (accI op imm (q:Int) a b (V di) (S q)=res):=hres
 have HH:Hid (Arr w bH (nH*3) (hsF S)):=hh
 have lo0:=ha.l0
 have lo1:=ha.l1
 have hi0:=ha.h0
 have hi1:=ha.h1
 have bm0:=hb.m0
 have bm1:=hb.m1
 have HF:Hid (FA=facA V z c):=hF
 have HQI:Hid (a.k=1->a.h=(q:Int)->q<nH):=hqi
 clear hres hh ha hb hF hqi
 go_enter Tryz.func83,Tryz.ntmps83
 go_upto_region 1 with fail
 obtain⟨u,hu,pu⟩:=ra_pre w V z c FA HF.out (op:=op) (d:=(di:Int)) (ra:=ra) (rb:=rb) (imm:=imm) (h:=(q:Int)) a b fl sec
 rw[hu]
 have P0:Hid (RaP w u V z c op (di:Int) ra rb imm (q:Int) a b fl sec):=pu
 clear hu pu
 obtain⟨i0,i1,i2,i3,i4,i5⟩:=ins_cells P0.out.I
 obtain⟨o0,o1,o2,o3,o4,o5,o6,o7,o8,o9,o10,o11,o12,o13⟩:=ro_ops P0.out.O
 by_cases c1:a.k=1
 rotate_left
 ·have e1:(a.k !=1)=true:=by simp[c1]
  go_wp2
  go_ret
  exact⟨ret_int (by rw[<-HR.out,accI,if_pos c1]),P0.out.bel⟩
 have e1:(a.k !=1)=false:=by simp[c1]
 have C1:Hid (a.k=1):=c1
 clear c1
 by_cases c2:a.h=(q:Int)
 rotate_left
 ·have e2:(a.h !=(q:Int))=true:=by simp[c2]
  go_wp2
  go_ret
  exact⟨ret_int (by rw[<-HR.out,accI,if_neg (by simp[C1.out]),if_pos c2]),P0.out.bel⟩
 have e2:(a.h !=(q:Int))=false:=by simp[c2]
 have C2:Hid (a.h=(q:Int)):=c2
 have hq:q<nH:=HQI.out C1.out c2
 clear c2 HQI
 cases hs:b.s with
 |true=>
  rw[hs]at o7
  go_wp2
  go_ret
  exact⟨ret_int (by rw[<-HR.out,accI,if_neg (by simp[C1.out]),if_neg (by simp[C2.out]),if_pos (Or.inl hs)]),P0.out.bel⟩
 |false=>
 have C3:Hid (b.s=false):=hs
 rw[hs]at o7
 clear hs
 go_wp2_with fail
 refine(maxOf_any b.k false b.m b.h b.lo b.hi _).mono ?_
 rintro e u1⟨rfl,hbe⟩
 obtain⟨mb,hm⟩:∃m,maxV b=m:=⟨_,rfl⟩
 rw[show maxV ⟨b.k,false,b.m,b.h,b.lo,b.hi⟩=mb from hm]
 have HM:Hid (maxV b=mb):=hm
 have P1:Hid (RaP w u1 V z c op (di:Int) ra rb imm (q:Int) a b fl sec):=P0.out.below hbe
 clear hm hbe P0 i0 i1 i2 i3 i4 i5 o0 o1 o2 o3 o4 o5 o6 o7 o8 o9 o10 o11 o12 o13
 by_cases c4:mb<0
 ·have e4:decide (mb<0)=true:=by simp[c4]
  go_wp2
  go_ret
  exact⟨ret_int (by rw[<-HR.out,accI,if_neg (by simp[C1.out]),if_neg (by simp[C2.out]),if_pos (Or.inr (by rw[HM.out];exact c4))]),P1.out.bel⟩
 have e4:decide (mb<0)=false:=by simp;omega
 have C4:Hid (¬maxV b<0):=by rw[HM.out];exact c4
 clear c4
 go_upto_region 7 with fail
 clear e4 HM
 have t0:∀w',Below u1.heap.size u1 w'->w'.cell? ⟨w.heap.size+1+1,4,none⟩=some (.int .i64 a.lo):=fun w' h=>(P1.out.O.below h).2 4 (by simp)
 have t1:∀w',Below u1.heap.size u1 w'->w'.cell? ⟨w.heap.size+1+1,5,none⟩=some (.int .i64 a.hi):=fun w' h=>(P1.out.O.below h).2 5 (by simp)
 have t2:∀w',Below u1.heap.size u1 w'->w'.cell? ⟨w.heap.size+1+1,8,none⟩=some (.int .i64 b.m):=fun w' h=>(P1.out.O.below h).2 8 (by simp)
 have t3:∀w',Below u1.heap.size u1 w'->w'.cell? ⟨w.heap.size+1,4,none⟩=some (.int .i64 imm):=fun w' h=>(P1.out.I.below h).2 4 (by simp)
 obtain⟨i0,i1,i2,i3,i4,i5⟩:=ins_cells P1.out.I
 obtain⟨o0,o1,o2,o3,o4,o5,o6,o7,o8,o9,o10,o11,o12,o13⟩:=ro_ops P1.out.O
 go_quiet(fail)
 clear t0 t1 t2 t3 i0 i1 i2 i3 i4 i5 o0 o1 o2 o3 o4 o5 o6 o7 o8 o9 o10 o11 o12 o13
 obtain⟨u2,hd2,hb2⟩:∃v,u1.drewN nq=v/\Below u1.heap.size u1 v:=⟨_,rfl,below_drewN (Below.refl _ _) _⟩
 rw[hd2]
 have P2:Hid (RaP w u2 V z c op (di:Int) ra rb imm (q:Int) a b fl sec):=P1.out.below hb2
 clear hd2 hb2 P1
 obtain⟨i0,i1,i2,i3,i4,i5⟩:=ins_cells P2.out.I
 have h0:u2.cell? ⟨bH,q*3,none⟩=some (.int .i64 (S q).size):=((HH.out.below P2.out.bel HH.out.lt).cell (i:=q*3+0) (by omega)).trans (congrArg some (hsF_at S q 0 (by omega)))
 have h1:u2.cell? ⟨bH,q*3+1,none⟩=some (.bool (S q).s):=((HH.out.below P2.out.bel HH.out.lt).cell (i:=q*3+1) (by omega)).trans (congrArg some (hsF_at S q 1 (by omega)))
 have h2:u2.cell? ⟨bH,q*3+2,none⟩=some (.bool (S q).w):=((HH.out.below P2.out.bel HH.out.lt).cell (i:=q*3+2) (by omega)).trans (congrArg some (hsF_at S q 2 (by omega)))
 go_upto_region 9 with fail
 obtain⟨u3,hu3,hb3,g3⟩:∃v,u2.alloc (.cells #[.int .i64 (S q).size,.bool (S q).s,.bool (S q).w] 98)=v/\Below u2.heap.size u2 v/\Cl v u2.heap.size [.int .i64 (S q).size,.bool (S q).s,.bool (S q).w]:=⟨_,rfl,(Below.refl _ _).alloc (Nat.le_refl _) _,Cl.new⟩
 rw[hu3]
 have P3:Hid (RaP w u3 V z c op (di:Int) ra rb imm (q:Int) a b fl sec):=P2.out.below hb3
 have G3:Hid (Cl u3 u2.heap.size [.int .i64 (S q).size,.bool (S q).s,.bool (S q).w]):=g3
 clear hu3 hb3 g3 P2 i0 i1 i2 i3 i4 i5 h0 h1 h2 HH
 generalize u2.heap.size=gb at *
 obtain⟨lo,hlo⟩:∃x,a.lo+imm=x:=⟨_,rfl⟩
 obtain⟨hi,hhi⟩:∃x,a.hi+imm+b.m=x:=⟨_,rfl⟩
 have hi2: -3000000000000<=hi/\hi<=3000000000000:=by omega
 have HLO:Hid (a.lo+imm=lo):=hlo
 have HHI:Hid (a.hi+imm+b.m=hi):=hhi
 rw[hlo,hhi]
 clear hlo hhi
 have t0:∀w',Below u3.heap.size u3 w'->w'.cell? ⟨w.heap.size+1,0,none⟩=some (.int .i64 op):=fun w' h=>(P3.out.I.below h).2 0 (by simp)
 have t1:∀w',Below u3.heap.size u3 w'->w'.cell? ⟨gb,0,none⟩=some (.int .i64 (S q).size):=fun w' h=>(G3.out.below h).2 0 (by simp)
 obtain⟨wd,hwd⟩:∃x,wdI op=x:=⟨_,rfl⟩
 have wd1:1<=wd/\wd<=8:=by rw[<-hwd];exact wdI_le op
 have HWD:Hid (wdI op=wd):=hwd
 clear hwd
 refine wp_region_held_drew (S:=fun w'=>Below u3.heap.size u3 w') (by kernel_rfl) (Below.refl _ _).drew (fun hHeld=>?_)
 obtain⟨u4,hd4,hb4⟩:∃v,u3.drew=v/\Below u3.heap.size u3 v:=⟨_,rfl,(Below.refl _ _).drew⟩
 rw[hd4]at hHeld⊢
 have P4:Hid (RaP w u4 V z c op (di:Int) ra rb imm (q:Int) a b fl sec):=P3.out.below hb4
 have G4:Hid (Cl u4 gb [.int .i64 (S q).size,.bool (S q).s,.bool (S q).w]):=G3.out.below hb4
 clear hd4 hb4 P3 G3
 by_cases c5:lo<0
 ·have e5:decide (lo<0)=true:=by simp[c5]
  refine wpAnyH_ta 0 rfl ?_
  refine wpAnyH_ta 1 rfl ?_
  refine wpAnyH_ta 2 rfl ?_
  refine wpAnyH_sk 3 rfl ?_
  try simp only[Act.put,List.getElem_toArray,List.getElem_cons_zero,List.getElem_cons_succ,List.setIfInBounds_toArray,List.set_cons_zero,List.set_cons_succ]
  refine wpAnyH_sk 4 rfl ?_
  try simp only[Act.put,List.getElem_toArray,List.getElem_cons_zero,List.getElem_cons_succ,List.setIfInBounds_toArray,List.set_cons_zero,List.set_cons_succ]
  refine wpAnyH_sk 5 rfl ?_
  try simp only[Act.put,List.getElem_toArray,List.getElem_cons_zero,List.getElem_cons_succ,List.setIfInBounds_toArray,List.set_cons_zero,List.set_cons_succ]
  refine wpAnyH_sk 6 rfl ?_
  try simp only[Act.put,List.getElem_toArray,List.getElem_cons_zero,List.getElem_cons_succ,List.setIfInBounds_toArray,List.set_cons_zero,List.set_cons_succ]
  refine wpAnyH_sk 7 rfl ?_
  try simp only[Act.put,List.getElem_toArray,List.getElem_cons_zero,List.getElem_cons_succ,List.setIfInBounds_toArray,List.set_cons_zero,List.set_cons_succ]
  refine wpAnyH_sk 8 rfl ?_
  try simp only[Act.put,List.getElem_toArray,List.getElem_cons_zero,List.getElem_cons_succ,List.setIfInBounds_toArray,List.set_cons_zero,List.set_cons_succ]
  refine wpAnyH_sk 9 rfl ?_
  try simp only[Act.put,List.getElem_toArray,List.getElem_cons_zero,List.getElem_cons_succ,List.setIfInBounds_toArray,List.set_cons_zero,List.set_cons_succ]
  refine wpAnyH_sk 10 rfl ?_
  try simp only[Act.put,List.getElem_toArray,List.getElem_cons_zero,List.getElem_cons_succ,List.setIfInBounds_toArray,List.set_cons_zero,List.set_cons_succ]
  refine wpAnyH_ta 11 rfl ?_
  refine wpAnyH_done (by kernel_rfl) ?_ _
  clear t0 t1 hHeld
  go_wp2
  go_ret
  exact⟨ret_int (by rw[<-HR.out,accI,if_neg (by simp[C1.out]),if_neg (by simp[C2.out]),if_neg (fun x=>x.elim (by simp[C3.out]) (fun y=>absurd y (by have:=C4.out;omega))),if_pos (Or.inl (by rw[HLO.out];exact c5))]),P4.out.bel⟩
 have e5:decide (lo<0)=false:=by simp;omega
 refine wpAnyH_ta 0 rfl ?_
 refine wpAnyH_ta 1 rfl ?_
 refine wpAnyH_ta 2 rfl ?_
 refine wpAnyH_ta 3 rfl ?_
 refine wpAnyH_ta 4 rfl ?_
 refine wpAnyH_ta 5 rfl ?_
 refine wpAnyH_ta 8 rfl ?_
 refine wpAnyH_ta 9 rfl ?_
 refine wpAnyH_ready (rs:=[6]) (by kernel_rfl) (by simp) ?_
 refine AllReadyH.cons rfl (fun KK hK=>?_) AllReadyH.nil
 go_simp
 refine(tr_widthOf_any op _).mono ?_
 rintro e w'⟨rfl,hw⟩
 rw[hw]
 clear hw
 rw[show(if op=21∨op=23∨op=25∨op=27 then(1:Int)else 8)=wd from HWD.out]
 go_wp2_with fail
 refine hK.out _ _ hHeld (fun _=>?_)
 clear hK KK
 try go_frame
 have f1:IntKind.i64.wrap (hi+wd)=hi+wd:=by rw[IntKind.wrap_i64];omega
 by_cases c6:(S q).size<hi+wd
 ·have e7:decide ((S q).size<hi+wd)=true:=by simp[c6]
  refine wpAnyH_ta 7 rfl ?_
  refine wpAnyH_ta 10 rfl ?_
  refine wpAnyH_ta 11 rfl ?_
  refine wpAnyH_done (by kernel_rfl) ?_ _
  clear t0 t1 hHeld
  go_wp2
  go_ret
  exact⟨ret_int (by rw[<-HR.out,accI,if_neg (by simp[C1.out]),if_neg (by simp[C2.out]),if_neg (fun x=>x.elim (by simp[C3.out]) (fun y=>absurd y (by have:=C4.out;omega))),if_pos (Or.inr (by rw[HHI.out,HWD.out];exact c6))]),P4.out.bel⟩
 have e7:decide ((S q).size<hi+wd)=false:=by simp;omega
 have c6':¬(a.lo+imm<0∨(S q).size<a.hi+imm+b.m+wdI op):=by rw[HLO.out,HHI.out,HWD.out];omega
 have C6:Hid (¬(a.lo+imm<0∨(S q).size<a.hi+imm+b.m+wdI op)):=c6'
 clear c6'
 refine wpAnyH_ta 7 rfl ?_
 refine wpAnyH_ta 10 rfl ?_
 refine wpAnyH_ta 11 rfl ?_
 refine wpAnyH_done (by kernel_rfl) ?_ _
 clear t0 t1 hHeld e5 e7 c5 c6 f1
 obtain⟨i0,i1,i2,i3,i4,i5⟩:=ins_cells P4.out.I
 have g1:u4.cell? ⟨gb,1,none⟩=some (.bool (S q).s):=G4.out.2 1 (by simp)
 have g2:u4.cell? ⟨gb,2,none⟩=some (.bool (S q).w):=G4.out.2 2 (by simp)
 have f1:u4.cell? ⟨w.heap.size,di*6+1,none⟩=some (.bool (V di).s):=(P4.out.F.cell (i:=di*6+1) (by omega)).trans (congrArg some (fF_val V z c di 1 (by omega) (by omega)))
 go_wp2_with fail
 refine(tr_isStore_any op _).mono ?_
 rintro e w'⟨rfl,hw⟩
 rw[hw]
 clear hw
 cases hst:stB op with
 |false=>
  rw[show decide (op=23∨op=24∨op=27∨op=28)=false from hst]
  go_wp2
  go_ret
  exact⟨ret_int (by rw[<-HR.out,accI,if_neg (by simp[C1.out]),if_neg (by simp[C2.out]),if_neg (fun x=>x.elim (by simp[C3.out]) (fun y=>absurd y (by have:=C4.out;omega))),if_neg C6.out,if_pos hst]),P4.out.bel⟩
 |true=>
 rw[show decide (op=23∨op=24∨op=27∨op=28)=true from hst]
 have C7:Hid (¬stB op=false):=(by simp[hst]:¬stB op=false)
 clear hst
 cases hgw:(S q).w with
 |false=>
  rw[hgw]at g2
  go_wp2
  go_ret
  exact⟨ret_int (by rw[<-HR.out,accI,if_neg (by simp[C1.out]),if_neg (by simp[C2.out]),if_neg (fun x=>x.elim (by simp[C3.out]) (fun y=>absurd y (by have:=C4.out;omega))),if_neg C6.out,if_neg C7.out,if_pos hgw]),P4.out.bel⟩
 |true=>
 rw[hgw]at g2
 have C8:Hid (¬(S q).w=false):=(by simp[hgw]:¬(S q).w=false)
 clear hgw
 cases hxs:(V di).s with
 |false=>
  rw[hxs]at f1
  go_wp2
  go_ret
  exact⟨ret_int (by rw[<-HR.out,accI,if_neg (by simp[C1.out]),if_neg (by simp[C2.out]),if_neg (fun x=>x.elim (by simp[C3.out]) (fun y=>absurd y (by have:=C4.out;omega))),if_neg C6.out,if_neg C7.out,if_neg C8.out,if_neg (by simp[hxs])]),P4.out.bel⟩
 |true=>
 rw[hxs]at f1
 cases hgs:(S q).s with
 |false=>
  rw[hgs]at g1
  go_wp2
  go_ret
  exact⟨ret_int (by rw[<-HR.out,accI,if_neg (by simp[C1.out]),if_neg (by simp[C2.out]),if_neg (fun x=>x.elim (by simp[C3.out]) (fun y=>absurd y (by have:=C4.out;omega))),if_neg C6.out,if_neg C7.out,if_neg C8.out,if_pos ⟨hxs,hgs⟩]),P4.out.bel⟩
 |true=>
  rw[hgs]at g1
  go_wp2
  go_ret
  exact⟨ret_int (by rw[<-HR.out,accI,if_neg (by simp[C1.out]),if_neg (by simp[C2.out]),if_neg (fun x=>x.elim (by simp[C3.out]) (fun y=>absurd y (by have:=C4.out;omega))),if_neg C6.out,if_neg C7.out,if_neg C8.out,if_neg (by simp[hgs])]),P4.out.bel⟩
def refI(op fl:Int)(sec:Bool)(r:Int):Int:=if fl=0 then 1 else if op=9/\sec=true then 9 else if 21<=op/\op<=28 then r else 0
theorem refusal_any(V:Nat->VV)(z c:Int)(FA:Array Value)(hF:FA=facA V z c)(op d ra rb imm h:Int)(a b:VV)(fl:Int)(sec:Bool)(hv:Value)(r:Int)(w:World)
 (hacc:21<=op->op<=28->∀w',Below w.heap.size w w'->Calls Tryz.prog 83 #[.agg FA,.agg #[.int .i64 op,.int .i64 d,.int .i64 ra,.int .i64 rb,.int .i64 imm,.int .i64 h],.agg #[.int .i64 a.k,.bool a.s,.int .i64 a.m,.int .i64 a.h,.int .i64 a.lo,.int .i64 a.hi,.int .i64 b.k,.bool b.s,.int .i64 b.m,.int .i64 b.h,.int .i64 b.lo,.int .i64 b.hi,.int .i64 fl,.bool sec],hv] w' fun e v=>e=.returned (.int .i64 r)/\Below w'.heap.size w' v):
 Calls Tryz.prog 65 #[.agg FA,.agg #[.int .i64 op,.int .i64 d,.int .i64 ra,.int .i64 rb,.int .i64 imm,.int .i64 h],.agg #[.int .i64 a.k,.bool a.s,.int .i64 a.m,.int .i64 a.h,.int .i64 a.lo,.int .i64 a.hi,.int .i64 b.k,.bool b.s,.int .i64 b.m,.int .i64 b.h,.int .i64 b.lo,.int .i64 b.hi,.int .i64 fl,.bool sec],hv] w fun e w'=>e=.returned (.int .i64 (refI op fl sec r))/\Below w.heap.size w w':=by
 obtain⟨res,hres⟩:∃x,refI op fl sec r=x:=⟨_,rfl⟩
 rw[hres];have HR:Hid (refI op fl sec r=res):=hres;have HC:Hid _:=hacc;have HF:Hid (FA=facA V z c):=hF;clear hres hacc hF;go_enter Tryz.func65,Tryz.ntmps65;go_upto_region 1 with fail;obtain⟨u,hu,pu⟩:=ra_pre w V z c FA HF.out (op:=op) (d:=d) (ra:=ra) (rb:=rb) (imm:=imm) (h:=h) a b fl sec;rw[hu];have P0:Hid (RaP w u V z c op d ra rb imm h a b fl sec):=pu;clear hu pu;obtain⟨i0,i1,i2,i3,i4,i5⟩:=ins_cells P0.out.I;obtain⟨o0,o1,o2,o3,o4,o5,o6,o7,o8,o9,o10,o11,o12,o13⟩:=ro_ops P0.out.O;by_cases c1:fl=0
 ·have e1:(fl==0)=true:=by simp[c1]
  have C1:Hid (fl=0):=c1;clear c1;go_wp2;go_ret;exact⟨ret_int (by rw[<-HR.out,refI,if_pos C1.out]),P0.out.bel⟩
 have e1:(fl==0)=false:=by simp[c1]
 have C1:Hid (¬fl=0):=c1;clear c1;by_cases c2:op=9
 ·have e2:(op==9)=true:=by simp[c2]
  have C2:Hid (op=9):=c2;clear c2;cases hs:sec with
  |true=>
   rw[hs]at o13;go_wp2;go_ret;exact⟨ret_int (by rw[<-HR.out,refI,if_neg C1.out,if_pos ⟨C2.out,hs⟩]),P0.out.bel⟩
  |false=>
   have C3:Hid (sec=false):=hs;rw[hs]at o13;clear hs;go_wp2_with fail;refine(tr_isAccess_any op _).mono ?_;rintro e w'⟨rfl,hw⟩;rw[hw];clear hw;have e3:decide (21<=op/\op<=28)=false:=by have:=C2.out;simp;omega
   rw[e3];go_wp2;go_ret;exact⟨ret_int (by rw[<-HR.out,refI,if_neg C1.out,if_neg (by simp[C3.out]),if_neg (by have:=C2.out;omega)]),P0.out.bel⟩
 have e2:(op==9)=false:=by simp[c2]
 have C2:Hid (¬op=9):=c2;clear c2;go_wp2_with fail;refine(tr_isAccess_any op _).mono ?_;rintro e w'⟨rfl,hw⟩;rw[hw];clear hw;by_cases c3:21<=op/\op<=28
 ·have e3:decide (21<=op/\op<=28)=true:=by simp[c3]
  rw[e3];have C3:Hid (21<=op/\op<=28):=c3;clear c3 e3;go_wp2_with(refine wpList_load_facts rfl (.tmp 4) rfl w.heap.size rfl V z c FA HF.out P0.out.F ?_);refine(HC.out C3.out.1 C3.out.2 _ P0.out.bel).mono ?_;rintro e v⟨rfl,hb⟩;go_wp2;go_ret;exact⟨ret_int (by rw[<-HR.out,refI,if_neg C1.out,if_neg (fun q=>C2.out q.1),if_pos C3.out]),P0.out.bel.trans (hb.mono P0.out.bel.size)⟩
 ·have e3:decide (21<=op/\op<=28)=false:=by simp only[decide_eq_false_iff_not];exact c3
  rw[e3];have C3:Hid (¬(21<=op/\op<=28)):=c3;clear c3 e3;go_wp2;go_ret;exact⟨ret_int (by rw[<-HR.out,refI,if_neg C1.out,if_neg (fun q=>C2.out q.1),if_neg C3.out]),P0.out.bel⟩
end Go.Proofs.YtbahofiiaodpdaaGreat
