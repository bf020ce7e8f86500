import Derived.Test.YtbahofiiaodpdaaGreatOfTransAbsI
import Derived.Test.YtbahofiiaodpdaaGreatOfTransRef2
import Derived.Test.YtbahofiiaodpdaaGreatOfCl
set_option maxHeartbeats 8000000
set_option maxRecDepth 20000
namespace Go.Proofs.YtbahofiiaodpdaaGreat
open Go.RowKit
def updV(V:Nat->VV)(d:Nat)(r:VV)(i:Nat):VV:=if i=d then r else V i
def aftT(V:Nat->VV)(z c:Int)(di:Nat)(R:VV)(r:Int)(wr fg sec:Bool):Value:=if r≠0 then .tuple #[.agg (facA (fun _=>zV) 0 0),.int .i64 r]else .tuple #[.agg (facA (if wr then updV V di R else V) (if fg then(if sec then 2 else 1)else z) (if fg then(if sec then 2 else 1)else c)),.int .i64 0]
theorem results_cell2{P:Program}{fn:Func}{p q:Tmp}{ty:TypeId}(h:fn.results=#[.cell p ty,.tmp q])(tmps:Array Value)(w:World)(b:Nat)(v x:Value)(hp:tmps.getD p undef=.pointer (some ⟨b,0,none⟩))(hq:tmps.getD q undef=x)(hl:(loadVar ty ⟨b,0,none⟩).run P w=.ok v w):(results fn tmps).run P w=.ok (.tuple #[v,x]) w:=by
 have hp':tmps[p]?.getD undef=.pointer (some ⟨b,0,none⟩):=by simpa using hp
 have hq':tmps[q]?.getD undef=x:=by simpa using hq
 simp[results,h,hp',hq',asAddr,hl]
structure AfP(w u:World)(V:Nat->VV)(z c op d ra rb imm h:Int):Prop where
 bel:Below w.heap.size w u
 F:Arr u w.heap.size 50 (fF V z c)
 I:Cl u (w.heap.size+1) [.int .i64 op,.int .i64 d,.int .i64 ra,.int .i64 rb,.int .i64 imm,.int .i64 h]
 R:Arr u (w.heap.size+1+1) 50 (fF (fun _=>zV) 0 0)
theorem AfP.below{w u v:World}{V:Nat->VV}{z c op d ra rb imm h:Int}(p:AfP w u V z c op d ra rb imm h)(hb:Below u.heap.size u v):AfP w v V z c op d ra rb imm h:=
 ⟨p.bel.trans (hb.mono p.bel.size),p.F.below hb p.F.lt,p.I.below hb,p.R.below hb p.R.lt⟩
theorem af_pre(w:World)(V:Nat->VV)(z c:Int)(FA Z0:Array Value)(hF:FA=facA V z c)(hZ:Z0=facA (fun _=>zV) 0 0){op d ra rb imm h:Int}:∃u,((w.alloc (.cells FA 70)).alloc (.cells #[.int .i64 op,.int .i64 d,.int .i64 ra,.int .i64 rb,.int .i64 imm,.int .i64 h] 30)).alloc (.cells Z0 70)=u/\AfP w u V z c op d ra rb imm h:=by
 subst hF hZ;have e0:=Arr.newFirst w 50 (fF V z c) 70;generalize hx:w.alloc (.cells (facA V z c) 70)=x;have s0:x.heap.size=w.heap.size+1:=by rw[<-hx];simp
 rw[show w.alloc (.cells (first 50 (fF V z c)).toArray 70)=x from hx]at e0;have b0:Below w.heap.size w x:=by rw[<-hx];exact(Below.refl _ _).alloc (Nat.le_refl _) _
 clear hx;have e1:=Cl.new (w:=x) (vs:=#[.int .i64 op,.int .i64 d,.int .i64 ra,.int .i64 rb,.int .i64 imm,.int .i64 h]) (t:=30);generalize hy:x.alloc (.cells #[.int .i64 op,.int .i64 d,.int .i64 ra,.int .i64 rb,.int .i64 imm,.int .i64 h] 30)=y at *;have s1:y.heap.size=w.heap.size+1+1:=by rw[<-hy];simp[s0]
 have b1:Below x.heap.size x y:=by rw[<-hy];exact(Below.refl _ _).alloc (Nat.le_refl _) _
 clear hy;have e2:=Arr.newFirst y 50 (fF (fun _=>zV) 0 0) 70;have b2:Below y.heap.size y (y.alloc (.cells (facA (fun _=>zV) 0 0) 70)):=(Below.refl _ _).alloc (Nat.le_refl _) _;rw[s0]at e1 b1;rw[s1]at e2 b2;exact⟨_,rfl,(b0.trans (b1.mono (by omega))).trans (b2.mono (by omega)),(e0.below b1 (by omega)).below b2 (by omega),e1.below (by rw[s1];exact b2),e2⟩
theorem facts_zero(w:World):(Instr.build 70 #[]).run Tryz.prog w=.ok (.agg (facA (fun _=>zV) 0 0)) w:=by kernel_rfl
theorem wpList_build_zero{ops:Array Oper}{rest:List Oper}{op:Oper}{a:Act}{w:World}{Q:Exit->Act->World->Prop}(hgd:op.guard=none)(ho:op.op=.build 70 #[])(Z0:Array Value)(hZ:Z0=facA (fun _=>zV) 0 0)
 (h:wpList Tryz.prog ops Q rest (a.put op.dst (.agg Z0)) w):wpList Tryz.prog ops Q (op::rest) a w:=by
 subst hZ;refine wpList_plain hgd fun K hK=>?_
 unfold Oper.wp execOp;simp only[ho,Array.map_empty,Sem.run_bind,facts_zero,Result.andThen_ok,Sem.run_pure];exact hK _ _ h
theorem wpList_store_facts{ops:Array Oper}{rest:List Oper}{op:Oper}{a:Act}{w:World}{Q:Exit->Act->World->Prop}(hgd:op.guard=none)(x y:Operand)(ho:op.op=.store 70 x y)(b:Nat)(V V0:Nat->VV)(z c z0 c0:Int)(hx:a.eval x=.pointer (some ⟨b,0,none⟩))(FA:Array Value)(hF:FA=facA V z c)(hy:a.eval y=.agg FA)(ht:Arr w b 50 (fF V0 z0 c0))
 (h:∀w',Arr w' b 50 (fF V z c)->Below b w w'->wpList Tryz.prog ops Q rest (a.put op.dst undef) w'):wpList Tryz.prog ops Q (op::rest) a w:=
 wpList_plain hgd fun _ hK=>wpL_store_facts x y ho b V V0 z c z0 c0 hx FA hF hy ht (fun w' hA hb _=>hK _ _ (h w' hA hb))
theorem AfP.setD{w u v:World}{V:Nat->VV}{z c op d ra rb imm h:Int}(p:AfP w u V z c op d ra rb imm h){di:Nat}(hd:di<8)(r:VV)(hv:v=(((((u.setCell ⟨w.heap.size,di*6,none⟩ (.int .i64 r.k)).setCell ⟨w.heap.size,di*6+1,none⟩ (.bool r.s)).setCell ⟨w.heap.size,di*6+2,none⟩ (.int .i64 r.m)).setCell ⟨w.heap.size,di*6+3,none⟩ (.int .i64 r.h)).setCell ⟨w.heap.size,di*6+4,none⟩ (.int .i64 r.lo)).setCell ⟨w.heap.size,di*6+5,none⟩ (.int .i64 r.hi)):AfP w v (updV V di r) z c op d ra rb imm h:=by
 subst hv;have k:Below w.heap.size u _:=(((((((Below.refl w.heap.size u).setCell (p:=⟨w.heap.size,di*6,none⟩) (Nat.le_refl _) (.int .i64 r.k)).setCell (p:=⟨w.heap.size,di*6+1,none⟩) (Nat.le_refl _) (.bool r.s)).setCell (p:=⟨w.heap.size,di*6+2,none⟩) (Nat.le_refl _) (.int .i64 r.m)).setCell (p:=⟨w.heap.size,di*6+3,none⟩) (Nat.le_refl _) (.int .i64 r.h)).setCell (p:=⟨w.heap.size,di*6+4,none⟩) (Nat.le_refl _) (.int .i64 r.lo)).setCell (p:=⟨w.heap.size,di*6+5,none⟩) (Nat.le_refl _) (.int .i64 r.hi))
 have hbl:=p.I.1;refine⟨p.bel.trans k,?_,⟨by simpa using hbl,fun i hi=>?_⟩,?_⟩
 ·refine(Arr.set1 (Arr.set1 (Arr.set1 (Arr.set1 (Arr.set1 (Arr.set1 p.F (di*6) (by omega) _) (di*6+1) (by omega) _) (di*6+2) (by omega) _) (di*6+3) (by omega) _) (di*6+4) (by omega) _) (di*6+5) (by omega) _).congr (fun i hi=>?_)
  by_cases h48:i<48
  ·have hx:=Nat.div_add_mod i 6
   have hm:i%6<6:=Nat.mod_lt _ (by decide);simp only[fF,if_pos h48,vF,updV];generalize i/6=kk at *;generalize i%6=jj at *;by_cases hk:kk=di
   ·subst hk
    rw[if_pos rfl];match jj,hm with
    |0,_=>rw[if_neg (by omega),if_neg (by omega),if_neg (by omega),if_neg (by omega),if_neg (by omega),if_pos (by omega)];rfl
    |1,_=>rw[if_neg (by omega),if_neg (by omega),if_neg (by omega),if_neg (by omega),if_pos (by omega)];rfl
    |2,_=>rw[if_neg (by omega),if_neg (by omega),if_neg (by omega),if_pos (by omega)];rfl
    |3,_=>rw[if_neg (by omega),if_neg (by omega),if_pos (by omega)];rfl
    |4,_=>rw[if_neg (by omega),if_pos (by omega)];rfl
    |5,_=>rw[if_pos (by omega)];rfl
   ·rw[if_neg hk]
    iterate 6 rw[if_neg (by omega)]
  ·iterate 6 rw[if_neg (by omega)]
   simp only[fF,if_neg h48]
 ·iterate 6 refine(World.cell?_setCell_far _ _ _ _ (by simp)).trans ?_
  exact p.I.2 i hi
 ·iterate 6 refine Arr.other ?_ (by simp;omega) _
  exact p.R
theorem AfP.setF{w u v:World}{V:Nat->VV}{z c op d ra rb imm h f:Int}(p:AfP w u V z c op d ra rb imm h)(hv:v=(u.setCell ⟨w.heap.size,48,none⟩ (.int .i64 f)).setCell ⟨w.heap.size,49,none⟩ (.int .i64 f)):AfP w v V f f op d ra rb imm h:=by
 subst hv;have k:Below w.heap.size u _:=((Below.refl w.heap.size u).setCell (p:=⟨w.heap.size,48,none⟩) (Nat.le_refl _) (.int .i64 f)).setCell (p:=⟨w.heap.size,49,none⟩) (Nat.le_refl _) (.int .i64 f);have hbl:=p.I.1;refine⟨p.bel.trans k,?_,⟨by simpa using hbl,fun i hi=>?_⟩,?_⟩
 ·refine(Arr.set1 (Arr.set1 p.F 48 (by omega) _) 49 (by omega) _).congr (fun i hi=>?_)
  by_cases h48:i<48
  ·simp only[fF,if_pos h48]
   iterate 2 rw[if_neg (by omega)]
  ·simp only[fF,if_neg h48]
   by_cases h:i=49
   ·rw[if_pos h,if_neg (by omega)]
   ·rw[if_neg h,if_pos (by omega),if_pos (by omega)]
 ·iterate 2 refine(World.cell?_setCell_far _ _ _ _ (by simp)).trans ?_
  exact p.I.2 i hi
 ·iterate 2 refine Arr.other ?_ (by simp;omega) _
  exact p.R
theorem after_any(V:Nat->VV)(z c:Int)(FA:Array Value)(hF:FA=facA V z c)(op ra rb imm h:Int)(di:Nat)(hd:di<8)(a b:VV)(fl:Int)(sec:Bool)(hv:Value)(r:Int)(R:VV)(wr fg:Bool)(w:World)
 (hop:∀w',Below w.heap.size w w'->Calls Tryz.prog 64 #[.agg FA,.agg #[.int .i64 op,.int .i64 (di:Int),.int .i64 ra,.int .i64 rb,.int .i64 imm,.int .i64 h]] w' fun e v=>e=.returned (.agg #[.int .i64 a.k,.bool a.s,.int .i64 a.m,.int .i64 a.h,.int .i64 a.lo,.int .i64 a.hi,.int .i64 b.k,.bool b.s,.int .i64 b.m,.int .i64 b.h,.int .i64 b.lo,.int .i64 b.hi,.int .i64 fl,.bool sec])/\Below w'.heap.size w' v)
 (href:∀w',Below w.heap.size w w'->Calls Tryz.prog 65 #[.agg FA,.agg #[.int .i64 op,.int .i64 (di:Int),.int .i64 ra,.int .i64 rb,.int .i64 imm,.int .i64 h],.agg #[.int .i64 a.k,.bool a.s,.int .i64 a.m,.int .i64 a.h,.int .i64 a.lo,.int .i64 a.hi,.int .i64 b.k,.bool b.s,.int .i64 b.m,.int .i64 b.h,.int .i64 b.lo,.int .i64 b.hi,.int .i64 fl,.bool sec],hv] w' fun e v=>e=.returned (.int .i64 r)/\Below w'.heap.size w' v)
 (hres:r=0->wr=true->∀w',Below w.heap.size w w'->Calls Tryz.prog 67 #[.agg #[.int .i64 op,.int .i64 (di:Int),.int .i64 ra,.int .i64 rb,.int .i64 imm,.int .i64 h],.agg #[.int .i64 a.k,.bool a.s,.int .i64 a.m,.int .i64 a.h,.int .i64 a.lo,.int .i64 a.hi,.int .i64 b.k,.bool b.s,.int .i64 b.m,.int .i64 b.h,.int .i64 b.lo,.int .i64 b.hi,.int .i64 fl,.bool sec],hv] w' fun e v=>e=.returned R.v/\Below w'.heap.size w' v)
 (ewr:((bits .and .i64 (fieldsI op) 1 !=0)&&!decide (op=23∨op=24∨op=27∨op=28))=wr)(efg:decide (14<=op/\op<=18)=fg):
 Calls Tryz.prog 33 #[.agg FA,.agg #[.int .i64 op,.int .i64 (di:Int),.int .i64 ra,.int .i64 rb,.int .i64 imm,.int .i64 h],hv] w fun e w'=>e=.returned (aftT V z c di R r wr fg sec)/\Below w.heap.size w w':=by
 have HF:Hid (FA=facA V z c):=hF;have HO:Hid _:=hop;have HR:Hid _:=href;have HS:Hid _:=hres;have HW:Hid _:=ewr;have HG:Hid _:=efg;obtain⟨Z0,hZ0⟩:∃x,facA (fun _=>zV) 0 0=x:=⟨_,rfl⟩
 have HZ:Hid (facA (fun _=>zV) 0 0=Z0):=hZ0;obtain⟨X,hX⟩:∃x,aftT V z c di R r wr fg sec=x:=⟨_,rfl⟩
 rw[hX];have HX:Hid (aftT V z c di R r wr fg sec=X):=hX;clear hF hop href hres ewr efg hZ0 hX;have hd8:(di:Int)<8:=by omega
 go_enter Tryz.func33,Tryz.ntmps33;go_upto_region 1 with fail;rw[zero_fac,HZ.out];obtain⟨u,hu,pu⟩:=af_pre w V z c FA Z0 HF.out HZ.out.symm (op:=op) (d:=(di:Int)) (ra:=ra) (rb:=rb) (imm:=imm) (h:=h);rw[hu];have P0:Hid (AfP w u V z c op (di:Int) ra rb imm h):=pu;clear hu pu;obtain⟨i0,i1,i2,i3,i4,i5⟩:=ins_cells P0.out.I;go_wp2_with(refine wpList_load_facts rfl (.tmp 3) rfl w.heap.size rfl V z c FA HF.out P0.out.F ?_);refine(HO.out _ P0.out.bel).mono ?_;rintro e u1⟨rfl,hb⟩;have P1:Hid (AfP w u1 V z c op (di:Int) ra rb imm h):=P0.out.below hb;clear hb P0 i0 i1 i2 i3 i4 i5;go_upto_region 2 with fail;obtain⟨u2,hu2,hb2,o2⟩:∃v,u1.alloc (.cells #[.int .i64 a.k,.bool a.s,.int .i64 a.m,.int .i64 a.h,.int .i64 a.lo,.int .i64 a.hi,.int .i64 b.k,.bool b.s,.int .i64 b.m,.int .i64 b.h,.int .i64 b.lo,.int .i64 b.hi,.int .i64 fl,.bool sec] 112)=v/\Below u1.heap.size u1 v/\Cl v u1.heap.size [.int .i64 a.k,.bool a.s,.int .i64 a.m,.int .i64 a.h,.int .i64 a.lo,.int .i64 a.hi,.int .i64 b.k,.bool b.s,.int .i64 b.m,.int .i64 b.h,.int .i64 b.lo,.int .i64 b.hi,.int .i64 fl,.bool sec]:=⟨_,rfl,(Below.refl _ _).alloc (Nat.le_refl _) _,Cl.new⟩
 rw[hu2];have P2:Hid (AfP w u2 V z c op (di:Int) ra rb imm h):=P1.out.below hb2;have O2:Hid (Cl u2 u1.heap.size [.int .i64 a.k,.bool a.s,.int .i64 a.m,.int .i64 a.h,.int .i64 a.lo,.int .i64 a.hi,.int .i64 b.k,.bool b.s,.int .i64 b.m,.int .i64 b.h,.int .i64 b.lo,.int .i64 b.hi,.int .i64 fl,.bool sec]):=o2;have hob:w.heap.size+1+1<u1.heap.size:=P1.out.R.lt;clear hu2 hb2 o2 P1;generalize u1.heap.size=ob at *;obtain⟨i0,i1,i2,i3,i4,i5⟩:=ins_cells P2.out.I;obtain⟨o0,o1,o2,o3,o4,o5,o6,o7,o8,o9,o10,o11,o12,o13⟩:=ro_ops O2.out;go_wp2_with(refine wpList_load_facts rfl (.tmp 3) rfl w.heap.size rfl V z c FA HF.out P2.out.F ?_);refine(HR.out _ P2.out.bel).mono ?_;rintro e u3⟨rfl,hb⟩;have P3:Hid (AfP w u3 V z c op (di:Int) ra rb imm h):=P2.out.below hb;have O3:Hid (Cl u3 ob [.int .i64 a.k,.bool a.s,.int .i64 a.m,.int .i64 a.h,.int .i64 a.lo,.int .i64 a.hi,.int .i64 b.k,.bool b.s,.int .i64 b.m,.int .i64 b.h,.int .i64 b.lo,.int .i64 b.hi,.int .i64 fl,.bool sec]):=O2.out.below hb;clear hb P2 O2 i0 i1 i2 i3 i4 i5 o0 o1 o2 o3 o4 o5 o6 o7 o8 o9 o10 o11 o12 o13;by_cases hr:r=0
 rotate_left
 ·have er:(r !=0)=true:=by simp[hr]
  go_wp2_with(first|(refine wpList_build_zero rfl rfl Z0 HZ.out.symm ?_)|(refine wpList_store_facts rfl (.tmp 6) (.tmp 20) rfl (w.heap.size+1+1) (fun _=>zV) (fun _=>zV) 0 0 0 0 rfl Z0 HZ.out.symm rfl P3.out.R ?_;intro w' hA hb));have HW':Hid (Arr w' (w.heap.size+1+1) 50 (fF (fun _=>zV) 0 0)):=hA;have HB':Hid (Below w.heap.size w w'):=P3.out.bel.trans (hb.mono (by omega));clear hA hb;go_wp2;refine bodyPost_ret (v:=.tuple #[.agg Z0,.int .i64 r]) (results_cell2 rfl _ _ (w.heap.size+1+1) _ _ rfl rfl (HZ.out▸facts_var HW'.out)) rfl ⟨?_,HB'.out⟩;rw[<-HX.out,aftT,if_pos hr,HZ.out]
 have er:(r !=0)=false:=by simp[hr]
 have HR0:Hid (r=0):=hr;clear hr;obtain⟨i0,i1,i2,i3,i4,i5⟩:=ins_cells P3.out.I;obtain⟨o0,o1,o2,o3,o4,o5,o6,o7,o8,o9,o10,o11,o12,o13⟩:=ro_ops O3.out;go_wp2_with fail;refine(fields_any op _).mono ?_;rintro e w'⟨rfl,hw⟩;rw[hw];clear hw;cases hD:(bits .and .i64 (fieldsI op) 1 !=0)with
 |false=>
  obtain rfl:false=wr:=by have:=HW.out;rw[hD]at this;simpa using this
  clear HS;go_wp2_with fail;refine(tr_setsFlags_any op _).mono ?_;rintro e w'⟨rfl,hw⟩;rw[hw];clear hw;rw[HG.out];cases fg with
  |false=>
   clear i0 i1 i2 i3 i4 i5 o0 o1 o2 o3 o4 o5 o6 o7 o8 o9 o10 o11 o12 o13;obtain⟨FB,hFB⟩:∃x,facA V z c=x:=⟨_,rfl⟩
   have HFB:Hid (facA V z c=FB):=hFB;clear hFB;go_wp2_with(first|(refine wpList_load_facts rfl (.tmp 3) rfl w.heap.size rfl V z c FB HFB.out.symm P3.out.F ?_)|(refine wpList_store_facts rfl (.tmp 6) (.tmp 51) rfl (w.heap.size+1+1) V (fun _=>zV) z c 0 0 rfl FB HFB.out.symm rfl P3.out.R ?_;intro w' hA hb));have HW':Hid (Arr w' (w.heap.size+1+1) 50 (fF V z c)):=hA;have HB':Hid (Below w.heap.size w w'):=P3.out.bel.trans (hb.mono (by omega));clear hA hb;go_wp2;refine bodyPost_ret (v:=.tuple #[.agg FB,.int .i64 0]) (results_cell2 rfl _ _ (w.heap.size+1+1) _ _ rfl rfl (HFB.out▸facts_var HW'.out)) rfl ⟨?_,HB'.out⟩;rw[<-HX.out,aftT,if_neg (by simp[HR0.out]),<-HFB.out];rfl
  |true=>
   go_wp2_with fail;refine(tr_flagOf_any sec _).mono ?_;rintro e w'⟨rfl,hw⟩;rw[hw];clear hw;obtain⟨f,hf⟩:∃x,(if sec then(2:Int)else 1)=x:=⟨_,rfl⟩
   rw[hf];have HFL:Hid ((if sec then(2:Int)else 1)=f):=hf;clear hf;have f48:u3.cell? ⟨w.heap.size,48,none⟩=some (.int .i64 z):=P3.out.F.cell (i:=48) (by omega);have f49:u3.cell? ⟨w.heap.size,49,none⟩=some (.int .i64 c):=P3.out.F.cell (i:=49) (by omega);have ff:=P3.out.F.free;have fl':=P3.out.F.lt;go_upto_region 10 with fail;clear i0 i1 i2 i3 i4 i5 o0 o1 o2 o3 o4 o5 o6 o7 o8 o9 o10 o11 o12 o13;clear f48 f49 ff fl';obtain⟨u9,hu9⟩:∃v,v=(u3.setCell ⟨w.heap.size,48,none⟩ (.int .i64 f)).setCell ⟨w.heap.size,49,none⟩ (.int .i64 f):=⟨_,rfl⟩
   rw[<-hu9];have P9:Hid (AfP w u9 V f f op (di:Int) ra rb imm h):=P3.out.setF hu9;clear hu9;obtain⟨FB,hFB⟩:∃x,facA V f f=x:=⟨_,rfl⟩
   have HFB:Hid (facA V f f=FB):=hFB;clear hFB;go_wp2_with(first|(refine wpList_load_facts rfl (.tmp 3) rfl w.heap.size rfl V f f FB HFB.out.symm P9.out.F ?_)|(refine wpList_store_facts rfl (.tmp 6) (.tmp 51) rfl (w.heap.size+1+1) V (fun _=>zV) f f 0 0 rfl FB HFB.out.symm rfl P9.out.R ?_;intro w' hA hb));have HW':Hid (Arr w' (w.heap.size+1+1) 50 (fF V f f)):=hA;have HB':Hid (Below w.heap.size w w'):=P9.out.bel.trans (hb.mono (by omega));clear hA hb;go_wp2;refine bodyPost_ret (v:=.tuple #[.agg FB,.int .i64 0]) (results_cell2 rfl _ _ (w.heap.size+1+1) _ _ rfl rfl (HFB.out▸facts_var HW'.out)) rfl ⟨?_,HB'.out⟩;rw[<-HX.out,aftT,if_neg (by simp[HR0.out]),<-HFB.out,<-HFL.out];rfl
 |true=>
 go_wp2_with fail;refine(tr_isStore_any op _).mono ?_;rintro e w'⟨rfl,hw⟩;rw[hw];clear hw;cases hst:decide (op=23∨op=24∨op=27∨op=28)with
 |true=>
  obtain rfl:false=wr:=by have:=HW.out;rw[hD,hst]at this;simpa using this
  clear HS;go_wp2_with fail;refine(tr_setsFlags_any op _).mono ?_;rintro e w'⟨rfl,hw⟩;rw[hw];clear hw;rw[HG.out];cases fg with
  |false=>
   clear i0 i1 i2 i3 i4 i5 o0 o1 o2 o3 o4 o5 o6 o7 o8 o9 o10 o11 o12 o13;obtain⟨FB,hFB⟩:∃x,facA V z c=x:=⟨_,rfl⟩
   have HFB:Hid (facA V z c=FB):=hFB;clear hFB;go_wp2_with(first|(refine wpList_load_facts rfl (.tmp 3) rfl w.heap.size rfl V z c FB HFB.out.symm P3.out.F ?_)|(refine wpList_store_facts rfl (.tmp 6) (.tmp 51) rfl (w.heap.size+1+1) V (fun _=>zV) z c 0 0 rfl FB HFB.out.symm rfl P3.out.R ?_;intro w' hA hb));have HW':Hid (Arr w' (w.heap.size+1+1) 50 (fF V z c)):=hA;have HB':Hid (Below w.heap.size w w'):=P3.out.bel.trans (hb.mono (by omega));clear hA hb
   go_wp2
   refine bodyPost_ret (v:=.tuple #[.agg FB,.int .i64 0]) (results_cell2 rfl _ _ (w.heap.size+1+1) _ _ rfl rfl (HFB.out▸facts_var HW'.out)) rfl ⟨?_,HB'.out⟩
   rw[<-HX.out,aftT,if_neg (by simp[HR0.out]),<-HFB.out]
   rfl
  |true=>
   go_wp2_with fail
   refine(tr_flagOf_any sec _).mono ?_
   rintro e w'⟨rfl,hw⟩
   rw[hw]
   clear hw
   obtain⟨f,hf⟩:∃x,(if sec then(2:Int)else 1)=x:=⟨_,rfl⟩
   rw[hf]
   have HFL:Hid ((if sec then(2:Int)else 1)=f):=hf
   clear hf
   have f48:u3.cell? ⟨w.heap.size,48,none⟩=some (.int .i64 z):=P3.out.F.cell (i:=48) (by omega)
   have f49:u3.cell? ⟨w.heap.size,49,none⟩=some (.int .i64 c):=P3.out.F.cell (i:=49) (by omega)
   have ff:=P3.out.F.free
   have fl':=P3.out.F.lt
   go_upto_region 10 with fail
   clear i0 i1 i2 i3 i4 i5 o0 o1 o2 o3 o4 o5 o6 o7 o8 o9 o10 o11 o12 o13
   clear f48 f49 ff fl'
   obtain⟨u9,hu9⟩:∃v,v=(u3.setCell ⟨w.heap.size,48,none⟩ (.int .i64 f)).setCell ⟨w.heap.size,49,none⟩ (.int .i64 f):=⟨_,rfl⟩
   rw[<-hu9]
   have P9:Hid (AfP w u9 V f f op (di:Int) ra rb imm h):=P3.out.setF hu9
   clear hu9
   obtain⟨FB,hFB⟩:∃x,facA V f f=x:=⟨_,rfl⟩
   have HFB:Hid (facA V f f=FB):=hFB
   clear hFB
   go_wp2_with(first|(refine wpList_load_facts rfl (.tmp 3) rfl w.heap.size rfl V f f FB HFB.out.symm P9.out.F ?_)|(refine wpList_store_facts rfl (.tmp 6) (.tmp 51) rfl (w.heap.size+1+1) V (fun _=>zV) f f 0 0 rfl FB HFB.out.symm rfl P9.out.R ?_;intro w' hA hb))
   have HW':Hid (Arr w' (w.heap.size+1+1) 50 (fF V f f)):=hA
   have HB':Hid (Below w.heap.size w w'):=P9.out.bel.trans (hb.mono (by omega))
   clear hA hb
   go_wp2
   refine bodyPost_ret (v:=.tuple #[.agg FB,.int .i64 0]) (results_cell2 rfl _ _ (w.heap.size+1+1) _ _ rfl rfl (HFB.out▸facts_var HW'.out)) rfl ⟨?_,HB'.out⟩
   rw[<-HX.out,aftT,if_neg (by simp[HR0.out]),<-HFB.out,<-HFL.out]
   rfl
 |false=>
 obtain rfl:true=wr:=by have:=HW.out;rw[hD,hst]at this;simpa using this
 go_upto_region 6 with fail
 clear i0 i1 i2 i3 i4 i5 o0 o1 o2 o3 o4 o5 o6 o7 o8 o9 o10 o11 o12 o13
 have t0:∀w',Below u3.heap.size u3 w'->w'.cell? ⟨w.heap.size+1,0,none⟩=some (.int .i64 op):=fun w' h=>(P3.out.I.below h).2 0 (by simp)
 have t1:∀w',Below u3.heap.size u3 w'->w'.cell? ⟨w.heap.size+1,1,none⟩=some (.int .i64 (di:Int)):=fun w' h=>(P3.out.I.below h).2 1 (by simp)
 have t2:∀w',Below u3.heap.size u3 w'->w'.cell? ⟨w.heap.size+1,2,none⟩=some (.int .i64 ra):=fun w' h=>(P3.out.I.below h).2 2 (by simp)
 have t3:∀w',Below u3.heap.size u3 w'->w'.cell? ⟨w.heap.size+1,3,none⟩=some (.int .i64 rb):=fun w' h=>(P3.out.I.below h).2 3 (by simp)
 have t4:∀w',Below u3.heap.size u3 w'->w'.cell? ⟨w.heap.size+1,4,none⟩=some (.int .i64 imm):=fun w' h=>(P3.out.I.below h).2 4 (by simp)
 have t5:∀w',Below u3.heap.size u3 w'->w'.cell? ⟨w.heap.size+1,5,none⟩=some (.int .i64 h):=fun w' h=>(P3.out.I.below h).2 5 (by simp)
 have q0:∀w',Below u3.heap.size u3 w'->w'.cell? ⟨ob,0,none⟩=some (.int .i64 a.k):=fun w' h=>(O3.out.below h).2 0 (by simp)
 have q1:∀w',Below u3.heap.size u3 w'->w'.cell? ⟨ob,1,none⟩=some (.bool a.s):=fun w' h=>(O3.out.below h).2 1 (by simp)
 have q2:∀w',Below u3.heap.size u3 w'->w'.cell? ⟨ob,2,none⟩=some (.int .i64 a.m):=fun w' h=>(O3.out.below h).2 2 (by simp)
 have q3:∀w',Below u3.heap.size u3 w'->w'.cell? ⟨ob,3,none⟩=some (.int .i64 a.h):=fun w' h=>(O3.out.below h).2 3 (by simp)
 have q4:∀w',Below u3.heap.size u3 w'->w'.cell? ⟨ob,4,none⟩=some (.int .i64 a.lo):=fun w' h=>(O3.out.below h).2 4 (by simp)
 have q5:∀w',Below u3.heap.size u3 w'->w'.cell? ⟨ob,5,none⟩=some (.int .i64 a.hi):=fun w' h=>(O3.out.below h).2 5 (by simp)
 have q6:∀w',Below u3.heap.size u3 w'->w'.cell? ⟨ob,6,none⟩=some (.int .i64 b.k):=fun w' h=>(O3.out.below h).2 6 (by simp)
 have q7:∀w',Below u3.heap.size u3 w'->w'.cell? ⟨ob,7,none⟩=some (.bool b.s):=fun w' h=>(O3.out.below h).2 7 (by simp)
 have q8:∀w',Below u3.heap.size u3 w'->w'.cell? ⟨ob,8,none⟩=some (.int .i64 b.m):=fun w' h=>(O3.out.below h).2 8 (by simp)
 have q9:∀w',Below u3.heap.size u3 w'->w'.cell? ⟨ob,9,none⟩=some (.int .i64 b.h):=fun w' h=>(O3.out.below h).2 9 (by simp)
 have q10:∀w',Below u3.heap.size u3 w'->w'.cell? ⟨ob,10,none⟩=some (.int .i64 b.lo):=fun w' h=>(O3.out.below h).2 10 (by simp)
 have q11:∀w',Below u3.heap.size u3 w'->w'.cell? ⟨ob,11,none⟩=some (.int .i64 b.hi):=fun w' h=>(O3.out.below h).2 11 (by simp)
 have q12:∀w',Below u3.heap.size u3 w'->w'.cell? ⟨ob,12,none⟩=some (.int .i64 fl):=fun w' h=>(O3.out.below h).2 12 (by simp)
 have q13:∀w',Below u3.heap.size u3 w'->w'.cell? ⟨ob,13,none⟩=some (.bool sec):=fun w' h=>(O3.out.below h).2 13 (by simp)
 refine wp_region_L (T:=fun w'=>Below u3.heap.size u3 w') (s:=8) (by kernel_rfl) (Below.refl _ _).drew (fun hHeld=>?_)
 refine wpAnyL_ta 0 rfl ?_
 refine wpAnyL_ta 1 rfl ?_
 refine wpAnyL_ta 2 rfl ?_
 refine wpAnyL_ta 3 rfl ?_
 refine wpAnyL_ta 4 rfl ?_
 refine wpAnyL_taT 6 rfl ?_
 refine wpAnyL_call (i:=5) rfl (by kernel_rfl) (fun KK hK=>?_)
 go_simp
 refine(HS.out HR0.out (by first|rfl|trivial) _ (P3.out.bel.trans ((Below.refl _ _).drew.mono P3.out.bel.size))).mono ?_
 rintro e u4⟨rfl,hb⟩
 have b4:Below u3.heap.size u3 u4:=(Below.refl u3.heap.size u3).drew.trans hb
 clear hb
 simp only[VV.v]
 go_wp2_with fail
 refine hK.out _ _ b4 (fun hHeld4=>?_)
 clear hK KK
 try simp only[Act.put,List.getElem_toArray,List.getElem_cons_zero,List.getElem_cons_succ,List.setIfInBounds_toArray,List.set_cons_zero,List.set_cons_succ]
 refine wpAnyL_ta 7 rfl ?_
 have P4:Hid (AfP w u4 V z c op (di:Int) ra rb imm h):=P3.out.below b4
 have O4:Hid (Cl u4 ob [.int .i64 a.k,.bool a.s,.int .i64 a.m,.int .i64 a.h,.int .i64 a.lo,.int .i64 a.hi,.int .i64 b.k,.bool b.s,.int .i64 b.m,.int .i64 b.h,.int .i64 b.lo,.int .i64 b.hi,.int .i64 fl,.bool sec]):=O3.out.below b4
 clear t0 t1 t2 t3 t4 t5 q0 q1 q2 q3 q4 q5 q6 q7 q8 q9 q10 q11 q12 q13 P3 O3
 have f0:u4.cell? ⟨w.heap.size,di*6,none⟩=some (.int .i64 (V di).k):=(P4.out.F.cell (i:=di*6+0) (by omega)).trans (congrArg some (fF_val V z c di 0 (by omega) (by omega)))
 have f1:u4.cell? ⟨w.heap.size,di*6+1,none⟩=some (.bool (V di).s):=(P4.out.F.cell (i:=di*6+1) (by omega)).trans (congrArg some (fF_val V z c di 1 (by omega) (by omega)))
 have f2:u4.cell? ⟨w.heap.size,di*6+2,none⟩=some (.int .i64 (V di).m):=(P4.out.F.cell (i:=di*6+2) (by omega)).trans (congrArg some (fF_val V z c di 2 (by omega) (by omega)))
 have f3:u4.cell? ⟨w.heap.size,di*6+3,none⟩=some (.int .i64 (V di).h):=(P4.out.F.cell (i:=di*6+3) (by omega)).trans (congrArg some (fF_val V z c di 3 (by omega) (by omega)))
 have f4:u4.cell? ⟨w.heap.size,di*6+4,none⟩=some (.int .i64 (V di).lo):=(P4.out.F.cell (i:=di*6+4) (by omega)).trans (congrArg some (fF_val V z c di 4 (by omega) (by omega)))
 have f5:u4.cell? ⟨w.heap.size,di*6+5,none⟩=some (.int .i64 (V di).hi):=(P4.out.F.cell (i:=di*6+5) (by omega)).trans (congrArg some (fF_val V z c di 5 (by omega) (by omega)))
 have ff:=P4.out.F.free
 have fl':=P4.out.F.lt
 refine wpAnyL_store rfl (by kernel_rfl) (by kernel_rfl) (fun KK hK=>?_)
 go_simp
 refine hK.out _ _ ?_
 clear hK KK f0 f1 f2 f3 f4 f5 ff fl' hHeld hHeld4 b4
 obtain⟨u5,hu5⟩:∃v,v=(((((u4.setCell ⟨w.heap.size,di*6,none⟩ (.int .i64 R.k)).setCell ⟨w.heap.size,di*6+1,none⟩ (.bool R.s)).setCell ⟨w.heap.size,di*6+2,none⟩ (.int .i64 R.m)).setCell ⟨w.heap.size,di*6+3,none⟩ (.int .i64 R.h)).setCell ⟨w.heap.size,di*6+4,none⟩ (.int .i64 R.lo)).setCell ⟨w.heap.size,di*6+5,none⟩ (.int .i64 R.hi):=⟨_,rfl⟩
 rw[<-hu5]
 have P5:Hid (AfP w u5 (updV V di R) z c op (di:Int) ra rb imm h):=P4.out.setD hd R hu5
 have O5:Hid (Cl u5 ob [.int .i64 a.k,.bool a.s,.int .i64 a.m,.int .i64 a.h,.int .i64 a.lo,.int .i64 a.hi,.int .i64 b.k,.bool b.s,.int .i64 b.m,.int .i64 b.h,.int .i64 b.lo,.int .i64 b.hi,.int .i64 fl,.bool sec]):=⟨by rw[hu5];simpa using O4.out.1,fun i hi=>by rw[hu5];(iterate 6 refine(World.cell?_setCell_far _ _ _ _ (by simp;omega)).trans ?_);exact O4.out.2 i hi⟩
 clear hu5 P4 O4 HS
 obtain⟨i0,i1,i2,i3,i4,i5⟩:=ins_cells P5.out.I
 obtain⟨o0,o1,o2,o3,o4,o5,o6,o7,o8,o9,o10,o11,o12,o13⟩:=ro_ops O5.out
 go_wp2_with fail
 refine(tr_setsFlags_any op _).mono ?_
 rintro e w'⟨rfl,hw⟩
 rw[hw]
 clear hw
 rw[HG.out]
 cases fg with
 |false=>
  clear i0 i1 i2 i3 i4 i5 o0 o1 o2 o3 o4 o5 o6 o7 o8 o9 o10 o11 o12 o13
  obtain⟨FB,hFB⟩:∃x,facA (updV V di R) z c=x:=⟨_,rfl⟩
  have HFB:Hid (facA (updV V di R) z c=FB):=hFB
  clear hFB
  go_wp2_with(first|(refine wpList_load_facts rfl (.tmp 3) rfl w.heap.size rfl (updV V di R) z c FB HFB.out.symm P5.out.F ?_)|(refine wpList_store_facts rfl (.tmp 6) (.tmp 51) rfl (w.heap.size+1+1) (updV V di R) (fun _=>zV) z c 0 0 rfl FB HFB.out.symm rfl P5.out.R ?_;intro w' hA hb))
  have HW':Hid (Arr w' (w.heap.size+1+1) 50 (fF (updV V di R) z c)):=hA
  have HB':Hid (Below w.heap.size w w'):=P5.out.bel.trans (hb.mono (by omega))
  clear hA hb
  go_wp2
  refine bodyPost_ret (v:=.tuple #[.agg FB,.int .i64 0]) (results_cell2 rfl _ _ (w.heap.size+1+1) _ _ rfl rfl (HFB.out▸facts_var HW'.out)) rfl ⟨?_,HB'.out⟩
  rw[<-HX.out,aftT,if_neg (by simp[HR0.out]),<-HFB.out]
  rfl
 |true=>
  go_wp2_with fail
  refine(tr_flagOf_any sec _).mono ?_
  rintro e w'⟨rfl,hw⟩
  rw[hw]
  clear hw
  obtain⟨f,hf⟩:∃x,(if sec then(2:Int)else 1)=x:=⟨_,rfl⟩
  rw[hf]
  have HFL:Hid ((if sec then(2:Int)else 1)=f):=hf
  clear hf
  have f48:u5.cell? ⟨w.heap.size,48,none⟩=some (.int .i64 z):=P5.out.F.cell (i:=48) (by omega)
  have f49:u5.cell? ⟨w.heap.size,49,none⟩=some (.int .i64 c):=P5.out.F.cell (i:=49) (by omega)
  have ff:=P5.out.F.free
  have fl':=P5.out.F.lt
  go_upto_region 10 with fail
  clear i0 i1 i2 i3 i4 i5 o0 o1 o2 o3 o4 o5 o6 o7 o8 o9 o10 o11 o12 o13
  clear f48 f49 ff fl'
  obtain⟨u9,hu9⟩:∃v,v=(u5.setCell ⟨w.heap.size,48,none⟩ (.int .i64 f)).setCell ⟨w.heap.size,49,none⟩ (.int .i64 f):=⟨_,rfl⟩
  rw[<-hu9]
  have P9:Hid (AfP w u9 (updV V di R) f f op (di:Int) ra rb imm h):=P5.out.setF hu9
  clear hu9
  obtain⟨FB,hFB⟩:∃x,facA (updV V di R) f f=x:=⟨_,rfl⟩
  have HFB:Hid (facA (updV V di R) f f=FB):=hFB
  clear hFB
  go_wp2_with(first|(refine wpList_load_facts rfl (.tmp 3) rfl w.heap.size rfl (updV V di R) f f FB HFB.out.symm P9.out.F ?_)|(refine wpList_store_facts rfl (.tmp 6) (.tmp 51) rfl (w.heap.size+1+1) (updV V di R) (fun _=>zV) f f 0 0 rfl FB HFB.out.symm rfl P9.out.R ?_;intro w' hA hb))
  have HW':Hid (Arr w' (w.heap.size+1+1) 50 (fF (updV V di R) f f)):=hA
  have HB':Hid (Below w.heap.size w w'):=P9.out.bel.trans (hb.mono (by omega))
  clear hA hb
  go_wp2
  refine bodyPost_ret (v:=.tuple #[.agg FB,.int .i64 0]) (results_cell2 rfl _ _ (w.heap.size+1+1) _ _ rfl rfl (HFB.out▸facts_var HW'.out)) rfl ⟨?_,HB'.out⟩
  rw[<-HX.out,aftT,if_neg (by simp[HR0.out]),<-HFB.out,<-HFL.out]
  rfl
end Go.Proofs.YtbahofiiaodpdaaGreat
