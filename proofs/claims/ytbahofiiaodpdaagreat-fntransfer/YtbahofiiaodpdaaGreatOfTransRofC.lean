import Derived.Test.YtbahofiiaodpdaaGreatOfTransBits
import Derived.Test.YtbahofiiaodpdaaGreatOfTransResA
set_option maxHeartbeats 8000000
set_option maxRecDepth 20000
namespace Go.Proofs.YtbahofiiaodpdaaGreat
open Go.RowKit
def addV(a b:VV)(sec:Bool):VV:=if ppB a b then{a with hi:=a.hi+b.m}else if ppB b a then{b with hi:=b.hi+a.m}else numV sec (sumI (maxV a) (maxV b))
def movV(a:VV)(sec:Bool)(n:Int):VV:=if a.k=1 then(if a.lo+n< -1099511627776∨1099511627776<a.hi+n then numV false (-1)else{a with lo:=a.lo+n,hi:=a.hi+n})else numV sec (sumI a.m n)
def selV(a b:VV)(sec:Bool):VV:=if(joinV a b).k=1/\sec=true then numV true (-1)else{joinV a b with s:=sec}
def orI(a b:Int):Int:=if a<0∨b<0 then -1 else onesI (bigI a b)
structure RoP(w u:World)(op d ra rb imm h:Int)(a b:VV)(fl:Int)(sec:Bool):Prop where
 bel:Below w.heap.size w u
 I:Cl u w.heap.size [.int .i64 op,.int .i64 d,.int .i64 ra,.int .i64 rb,.int .i64 imm,.int .i64 h]
 O:Cl u (w.heap.size+1) [.int .i64 a.k,.bool a.s,.int .i64 a.m,.int .i64 a.h,.int .i64 a.lo,.int .i64 a.hi,.int .i64 b.k,.bool b.s,.int .i64 b.m,.int .i64 b.h,.int .i64 b.lo,.int .i64 b.hi,.int .i64 fl,.bool sec]
 R:Vb u (w.heap.size+1+1) zV
 oR:w.heap.size<=w.heap.size+1+1
theorem RoP.below{w u v:World}{op d ra rb imm h:Int}{a b:VV}{fl:Int}{sec:Bool}(p:RoP w u op d ra rb imm h a b fl sec)(hb:Below u.heap.size u v):RoP w v op d ra rb imm h a b fl sec:=
 ⟨p.bel.trans (hb.mono p.bel.size),p.I.below hb,p.O.below hb,p.R.below hb p.R.lt,p.oR⟩
theorem ro_pre(w:World){op d ra rb imm h:Int}(a b:VV)(fl:Int)(sec:Bool):∃u,((w.alloc (.cells #[.int .i64 op,.int .i64 d,.int .i64 ra,.int .i64 rb,.int .i64 imm,.int .i64 h] 30)).alloc (.cells #[.int .i64 a.k,.bool a.s,.int .i64 a.m,.int .i64 a.h,.int .i64 a.lo,.int .i64 a.hi,.int .i64 b.k,.bool b.s,.int .i64 b.m,.int .i64 b.h,.int .i64 b.lo,.int .i64 b.hi,.int .i64 fl,.bool sec] 112)).alloc (.cells #[.int .i64 0,.bool false,.int .i64 0,.int .i64 0,.int .i64 0,.int .i64 0] 62)=u/\RoP w u op d ra rb imm h a b fl sec:=by
 have e1:=Cl.new (w:=w.alloc (.cells #[.int .i64 op,.int .i64 d,.int .i64 ra,.int .i64 rb,.int .i64 imm,.int .i64 h] 30)) (vs:=#[.int .i64 a.k,.bool a.s,.int .i64 a.m,.int .i64 a.h,.int .i64 a.lo,.int .i64 a.hi,.int .i64 b.k,.bool b.s,.int .i64 b.m,.int .i64 b.h,.int .i64 b.lo,.int .i64 b.hi,.int .i64 fl,.bool sec]) (t:=112);have e2:=Vb.new ((w.alloc (.cells #[.int .i64 op,.int .i64 d,.int .i64 ra,.int .i64 rb,.int .i64 imm,.int .i64 h] 30)).alloc (.cells #[.int .i64 a.k,.bool a.s,.int .i64 a.m,.int .i64 a.h,.int .i64 a.lo,.int .i64 a.hi,.int .i64 b.k,.bool b.s,.int .i64 b.m,.int .i64 b.h,.int .i64 b.lo,.int .i64 b.hi,.int .i64 fl,.bool sec] 112)) zV;simp only[World.size_alloc]at e1 e2;refine⟨_,rfl,(((Below.refl _ _).alloc (Nat.le_refl _) _).alloc (by simp) _).alloc (by simp only[World.size_alloc];omega) _,((Cl.new).below ((Below.refl _ _).alloc (Nat.le_refl _) _)).below ((Below.refl _ _).alloc (Nat.le_refl _) _),e1.below ((Below.refl _ _).alloc (Nat.le_refl _) _),e2,by omega⟩
theorem ro_ops{u:World}{b':Nat}{a b:VV}{fl:Int}{sec:Bool}(q:Cl u b' [.int .i64 a.k,.bool a.s,.int .i64 a.m,.int .i64 a.h,.int .i64 a.lo,.int .i64 a.hi,.int .i64 b.k,.bool b.s,.int .i64 b.m,.int .i64 b.h,.int .i64 b.lo,.int .i64 b.hi,.int .i64 fl,.bool sec]):u.cell? ⟨b',0,none⟩=some (.int .i64 a.k)/\u.cell? ⟨b',1,none⟩=some (.bool a.s)/\u.cell? ⟨b',2,none⟩=some (.int .i64 a.m)/\u.cell? ⟨b',3,none⟩=some (.int .i64 a.h)/\u.cell? ⟨b',4,none⟩=some (.int .i64 a.lo)/\u.cell? ⟨b',5,none⟩=some (.int .i64 a.hi)/\u.cell? ⟨b',6,none⟩=some (.int .i64 b.k)/\u.cell? ⟨b',7,none⟩=some (.bool b.s)/\u.cell? ⟨b',8,none⟩=some (.int .i64 b.m)/\u.cell? ⟨b',9,none⟩=some (.int .i64 b.h)/\u.cell? ⟨b',10,none⟩=some (.int .i64 b.lo)/\u.cell? ⟨b',11,none⟩=some (.int .i64 b.hi)/\u.cell? ⟨b',12,none⟩=some (.int .i64 fl)/\u.cell? ⟨b',13,none⟩=some (.bool sec):=
 ⟨q.2 0 (by simp),q.2 1 (by simp),q.2 2 (by simp),q.2 3 (by simp),q.2 4 (by simp),q.2 5 (by simp),q.2 6 (by simp),q.2 7 (by simp),q.2 8 (by simp),q.2 9 (by simp),q.2 10 (by simp),q.2 11 (by simp),q.2 12 (by simp),q.2 13 (by simp)⟩
theorem resultOf_1(d ra rb imm h:Int)(a b:VV)(fl:Int)(sec:Bool)(hv:Value)(w:World)(ha:Bd a)(hb:Bd b):
 Calls Tryz.prog 67 #[.agg #[.int .i64 1,.int .i64 d,.int .i64 ra,.int .i64 rb,.int .i64 imm,.int .i64 h],.agg #[.int .i64 a.k,.bool a.s,.int .i64 a.m,.int .i64 a.h,.int .i64 a.lo,.int .i64 a.hi,.int .i64 b.k,.bool b.s,.int .i64 b.m,.int .i64 b.h,.int .i64 b.lo,.int .i64 b.hi,.int .i64 fl,.bool sec],hv] w fun e w'=>e=.returned (a).v/\Below w.heap.size w w':=by
 have HA:Hid (Bd a):=ha;have HB:Hid (Bd b):=hb;clear ha hb;go_enter Tryz.func67,Tryz.ntmps67;go_upto_region 1 with fail;obtain⟨u,hu,pu⟩:=ro_pre w (op:=1) (d:=d) (ra:=ra) (rb:=rb) (imm:=imm) (h:=h) a b fl sec;rw[hu];have P0:Hid (RoP w u 1 d ra rb imm h a b fl sec):=pu;clear hu pu;have t0:∀w',Below u.heap.size u w'->w'.cell? ⟨w.heap.size+1,0,none⟩=some (.int .i64 a.k):=fun w' h=>(P0.out.O.below h).2 0 (by simp)
 have t1:∀w',Below u.heap.size u w'->w'.cell? ⟨w.heap.size+1,1,none⟩=some (.bool a.s):=fun w' h=>(P0.out.O.below h).2 1 (by simp)
 have t2:∀w',Below u.heap.size u w'->w'.cell? ⟨w.heap.size+1,2,none⟩=some (.int .i64 a.m):=fun w' h=>(P0.out.O.below h).2 2 (by simp)
 have t3:∀w',Below u.heap.size u w'->w'.cell? ⟨w.heap.size+1,3,none⟩=some (.int .i64 a.h):=fun w' h=>(P0.out.O.below h).2 3 (by simp)
 have t4:∀w',Below u.heap.size u w'->w'.cell? ⟨w.heap.size+1,4,none⟩=some (.int .i64 a.lo):=fun w' h=>(P0.out.O.below h).2 4 (by simp)
 have t5:∀w',Below u.heap.size u w'->w'.cell? ⟨w.heap.size+1,5,none⟩=some (.int .i64 a.hi):=fun w' h=>(P0.out.O.below h).2 5 (by simp)
 have t6:∀w',Below u.heap.size u w'->w'.cell? ⟨w.heap.size+1,6,none⟩=some (.int .i64 b.k):=fun w' h=>(P0.out.O.below h).2 6 (by simp)
 have t7:∀w',Below u.heap.size u w'->w'.cell? ⟨w.heap.size+1,7,none⟩=some (.bool b.s):=fun w' h=>(P0.out.O.below h).2 7 (by simp)
 have t8:∀w',Below u.heap.size u w'->w'.cell? ⟨w.heap.size+1,8,none⟩=some (.int .i64 b.m):=fun w' h=>(P0.out.O.below h).2 8 (by simp)
 have t9:∀w',Below u.heap.size u w'->w'.cell? ⟨w.heap.size+1,9,none⟩=some (.int .i64 b.h):=fun w' h=>(P0.out.O.below h).2 9 (by simp)
 have t10:∀w',Below u.heap.size u w'->w'.cell? ⟨w.heap.size+1,10,none⟩=some (.int .i64 b.lo):=fun w' h=>(P0.out.O.below h).2 10 (by simp)
 have t11:∀w',Below u.heap.size u w'->w'.cell? ⟨w.heap.size+1,11,none⟩=some (.int .i64 b.hi):=fun w' h=>(P0.out.O.below h).2 11 (by simp)
 refine wp_region_held_drew (S:=fun w'=>Below u.heap.size u w') (by kernel_rfl) (Below.refl _ _).drew (fun hHeld=>?_);refine wpAnyH_ta 0 rfl ?_;refine wpAnyH_ta 1 rfl ?_;refine wpAnyH_ta 3 rfl ?_;refine wpAnyH_ta 4 rfl ?_;clear t0 t1 t2 t3 t4 t5 t6 t7 t8 t9 t10 t11;refine wpAnyH_ready (rs:=[2]) (by kernel_rfl) (by simp) ?_;refine AllReadyH.cons rfl (fun KK hK=>?_) AllReadyH.nil;go_simp;refine(maxOf_any a.k a.s a.m a.h a.lo a.hi _).mono ?_;rintro e v1⟨rfl,hb⟩;have hv1:Below u.heap.size u v1:=(Below.refl _ _).drew.trans hb;clear hb hHeld;obtain⟨ma,hm⟩:∃m,maxV a=m:=⟨_,rfl⟩
 rw[show maxV ⟨a.k,a.s,a.m,a.h,a.lo,a.hi⟩=ma from hm];have HMA:Hid (maxV a=ma):=hm;clear hm;go_wp2_with fail;refine hK.out _ _ hv1 (fun _=>?_);clear hK KK
 try go_frame
 refine wpAnyH_ready (rs:=[5]) (by kernel_rfl) (by simp) ?_
 refine AllReadyH.cons rfl (fun KK hK=>?_) AllReadyH.nil
 go_simp
 refine(maxOf_any b.k b.s b.m b.h b.lo b.hi _).mono ?_
 rintro e v2⟨rfl,hb⟩
 have hv2:Below u.heap.size u v2:=hv1.trans (hb.mono hv1.size)
 clear hb
 obtain⟨mb,hm⟩:∃m,maxV b=m:=⟨_,rfl⟩
 rw[show maxV ⟨b.k,b.s,b.m,b.h,b.lo,b.hi⟩=mb from hm]
 have HMB:Hid (maxV b=mb):=hm
 clear hm
 go_wp2_with fail
 refine hK.out _ _ hv2 (fun _=>?_)
 clear hK KK
 try go_frame
 refine wpAnyH_ta 6 rfl ?_
 refine wpAnyH_ta 7 rfl ?_
 refine wpAnyH_done (by kernel_rfl) ?_ _
 have P1:Hid (RoP w v2 1 d ra rb imm h a b fl sec):=P0.out.below hv2
 clear P0 hv1 hv2
 obtain⟨i0,i1,i2,i3,i4,i5⟩:=ins_cells P1.out.I
 obtain⟨o0,o1,o2,o3,o4,o5,o6,o7,o8,o9,o10,o11,o12,o13⟩:=ro_ops P1.out.O
 obtain⟨r0,r1,r2,r3,r4,r5⟩:=P1.out.R.cells
 have rf:=P1.out.R.free
 have rl:=P1.out.R.lt
 go_wp2
 exact bodyPost_ret (v:=VV.v a) (by simp[results,Tryz.results67,go_sem,VV.v, *]) rfl ⟨congrArg (fun q=>Ending.returned (VV.v q)) (rfl),below_putV P1.out.bel P1.out.oR _⟩
theorem resultOf_2(d ra rb imm h:Int)(a b:VV)(fl:Int)(sec:Bool)(hv:Value)(w:World)(ha:Bd a)(hb:Bd b):
 Calls Tryz.prog 67 #[.agg #[.int .i64 2,.int .i64 d,.int .i64 ra,.int .i64 rb,.int .i64 imm,.int .i64 h],.agg #[.int .i64 a.k,.bool a.s,.int .i64 a.m,.int .i64 a.h,.int .i64 a.lo,.int .i64 a.hi,.int .i64 b.k,.bool b.s,.int .i64 b.m,.int .i64 b.h,.int .i64 b.lo,.int .i64 b.hi,.int .i64 fl,.bool sec],hv] w fun e w'=>e=.returned (numV false imm).v/\Below w.heap.size w w':=by
 obtain⟨res,hres⟩:∃r,(numV false imm)=r:=⟨_,rfl⟩
 rw[hres]
 have HR:Hid ((numV false imm)=res):=hres
 have HA:Hid (Bd a):=ha
 have HB:Hid (Bd b):=hb
 clear hres ha hb
 go_enter Tryz.func67,Tryz.ntmps67
 go_upto_region 1 with fail
 obtain⟨u,hu,pu⟩:=ro_pre w (op:=2) (d:=d) (ra:=ra) (rb:=rb) (imm:=imm) (h:=h) a b fl sec
 rw[hu]
 have P0:Hid (RoP w u 2 d ra rb imm h a b fl sec):=pu
 clear hu pu
 have t0:∀w',Below u.heap.size u w'->w'.cell? ⟨w.heap.size+1,0,none⟩=some (.int .i64 a.k):=fun w' h=>(P0.out.O.below h).2 0 (by simp)
 have t1:∀w',Below u.heap.size u w'->w'.cell? ⟨w.heap.size+1,1,none⟩=some (.bool a.s):=fun w' h=>(P0.out.O.below h).2 1 (by simp)
 have t2:∀w',Below u.heap.size u w'->w'.cell? ⟨w.heap.size+1,2,none⟩=some (.int .i64 a.m):=fun w' h=>(P0.out.O.below h).2 2 (by simp)
 have t3:∀w',Below u.heap.size u w'->w'.cell? ⟨w.heap.size+1,3,none⟩=some (.int .i64 a.h):=fun w' h=>(P0.out.O.below h).2 3 (by simp)
 have t4:∀w',Below u.heap.size u w'->w'.cell? ⟨w.heap.size+1,4,none⟩=some (.int .i64 a.lo):=fun w' h=>(P0.out.O.below h).2 4 (by simp)
 have t5:∀w',Below u.heap.size u w'->w'.cell? ⟨w.heap.size+1,5,none⟩=some (.int .i64 a.hi):=fun w' h=>(P0.out.O.below h).2 5 (by simp)
 have t6:∀w',Below u.heap.size u w'->w'.cell? ⟨w.heap.size+1,6,none⟩=some (.int .i64 b.k):=fun w' h=>(P0.out.O.below h).2 6 (by simp)
 have t7:∀w',Below u.heap.size u w'->w'.cell? ⟨w.heap.size+1,7,none⟩=some (.bool b.s):=fun w' h=>(P0.out.O.below h).2 7 (by simp)
 have t8:∀w',Below u.heap.size u w'->w'.cell? ⟨w.heap.size+1,8,none⟩=some (.int .i64 b.m):=fun w' h=>(P0.out.O.below h).2 8 (by simp)
 have t9:∀w',Below u.heap.size u w'->w'.cell? ⟨w.heap.size+1,9,none⟩=some (.int .i64 b.h):=fun w' h=>(P0.out.O.below h).2 9 (by simp)
 have t10:∀w',Below u.heap.size u w'->w'.cell? ⟨w.heap.size+1,10,none⟩=some (.int .i64 b.lo):=fun w' h=>(P0.out.O.below h).2 10 (by simp)
 have t11:∀w',Below u.heap.size u w'->w'.cell? ⟨w.heap.size+1,11,none⟩=some (.int .i64 b.hi):=fun w' h=>(P0.out.O.below h).2 11 (by simp)
 refine wp_region_held_drew (S:=fun w'=>Below u.heap.size u w') (by kernel_rfl) (Below.refl _ _).drew (fun hHeld=>?_)
 refine wpAnyH_ta 0 rfl ?_
 refine wpAnyH_ta 1 rfl ?_
 refine wpAnyH_ta 3 rfl ?_
 refine wpAnyH_ta 4 rfl ?_
 clear t0 t1 t2 t3 t4 t5 t6 t7 t8 t9 t10 t11
 refine wpAnyH_ready (rs:=[2]) (by kernel_rfl) (by simp) ?_
 refine AllReadyH.cons rfl (fun KK hK=>?_) AllReadyH.nil
 go_simp
 refine(maxOf_any a.k a.s a.m a.h a.lo a.hi _).mono ?_
 rintro e v1⟨rfl,hb⟩
 have hv1:Below u.heap.size u v1:=(Below.refl _ _).drew.trans hb
 clear hb hHeld
 obtain⟨ma,hm⟩:∃m,maxV a=m:=⟨_,rfl⟩
 rw[show maxV ⟨a.k,a.s,a.m,a.h,a.lo,a.hi⟩=ma from hm]
 have HMA:Hid (maxV a=ma):=hm
 clear hm
 go_wp2_with fail
 refine hK.out _ _ hv1 (fun _=>?_)
 clear hK KK
 try go_frame
 refine wpAnyH_ready (rs:=[5]) (by kernel_rfl) (by simp) ?_
 refine AllReadyH.cons rfl (fun KK hK=>?_) AllReadyH.nil
 go_simp
 refine(maxOf_any b.k b.s b.m b.h b.lo b.hi _).mono ?_
 rintro e v2⟨rfl,hb⟩
 have hv2:Below u.heap.size u v2:=hv1.trans (hb.mono hv1.size)
 clear hb
 obtain⟨mb,hm⟩:∃m,maxV b=m:=⟨_,rfl⟩
 rw[show maxV ⟨b.k,b.s,b.m,b.h,b.lo,b.hi⟩=mb from hm]
 have HMB:Hid (maxV b=mb):=hm
 clear hm
 go_wp2_with fail
 refine hK.out _ _ hv2 (fun _=>?_)
 clear hK KK
 try go_frame
 refine wpAnyH_ta 6 rfl ?_
 refine wpAnyH_ta 7 rfl ?_
 refine wpAnyH_done (by kernel_rfl) ?_ _
 have P1:Hid (RoP w v2 2 d ra rb imm h a b fl sec):=P0.out.below hv2
 clear P0 hv1 hv2
 obtain⟨i0,i1,i2,i3,i4,i5⟩:=ins_cells P1.out.I
 obtain⟨o0,o1,o2,o3,o4,o5,o6,o7,o8,o9,o10,o11,o12,o13⟩:=ro_ops P1.out.O
 obtain⟨r0,r1,r2,r3,r4,r5⟩:=P1.out.R.cells
 have rf:=P1.out.R.free
 have rl:=P1.out.R.lt
 go_wp2_with fail
 refine(number_any false imm _).mono ?_
 rintro e y1⟨rfl,hb⟩
 have P2:Hid (RoP w y1 2 d ra rb imm h a b fl sec):=P1.out.below hb
 clear hb
 clear i0 i1 i2 i3 i4 i5 o0 o1 o2 o3 o4 o5 o6 o7 o8 o9 o10 o11 o12 o13 r0 r1 r2 r3 r4 r5 rf rl
 obtain⟨i0,i1,i2,i3,i4,i5⟩:=ins_cells P2.out.I
 obtain⟨o0,o1,o2,o3,o4,o5,o6,o7,o8,o9,o10,o11,o12,o13⟩:=ro_ops P2.out.O
 obtain⟨r0,r1,r2,r3,r4,r5⟩:=P2.out.R.cells
 have rf:=P2.out.R.free
 have rl:=P2.out.R.lt
 simp only[VV.v]
 go_wp2
 exact bodyPost_ret (v:=VV.v (numV false imm)) (by simp[results,Tryz.results67,go_sem,VV.v, *]) rfl ⟨congrArg (fun q=>Ending.returned (VV.v q)) (by rw[<-HR.out]),below_putV P2.out.bel P2.out.oR _⟩
theorem resultOf_3(d ra rb imm h:Int)(a b:VV)(fl:Int)(sec:Bool)(hv:Value)(w:World)(ha:Bd a)(hb:Bd b):
 Calls Tryz.prog 67 #[.agg #[.int .i64 3,.int .i64 d,.int .i64 ra,.int .i64 rb,.int .i64 imm,.int .i64 h],.agg #[.int .i64 a.k,.bool a.s,.int .i64 a.m,.int .i64 a.h,.int .i64 a.lo,.int .i64 a.hi,.int .i64 b.k,.bool b.s,.int .i64 b.m,.int .i64 b.h,.int .i64 b.lo,.int .i64 b.hi,.int .i64 fl,.bool sec],hv] w fun e w'=>e=.returned (addV a b sec).v/\Below w.heap.size w w':=by
 obtain⟨res,hres⟩:∃r,(addV a b sec)=r:=⟨_,rfl⟩
 rw[hres]
 have HR:Hid ((addV a b sec)=res):=hres
 have HA:Hid (Bd a):=ha
 have HB:Hid (Bd b):=hb
 clear hres ha hb
 go_enter Tryz.func67,Tryz.ntmps67
 go_upto_region 1 with fail
 obtain⟨u,hu,pu⟩:=ro_pre w (op:=3) (d:=d) (ra:=ra) (rb:=rb) (imm:=imm) (h:=h) a b fl sec
 rw[hu]
 have P0:Hid (RoP w u 3 d ra rb imm h a b fl sec):=pu
 clear hu pu
 have t0:∀w',Below u.heap.size u w'->w'.cell? ⟨w.heap.size+1,0,none⟩=some (.int .i64 a.k):=fun w' h=>(P0.out.O.below h).2 0 (by simp)
 have t1:∀w',Below u.heap.size u w'->w'.cell? ⟨w.heap.size+1,1,none⟩=some (.bool a.s):=fun w' h=>(P0.out.O.below h).2 1 (by simp)
 have t2:∀w',Below u.heap.size u w'->w'.cell? ⟨w.heap.size+1,2,none⟩=some (.int .i64 a.m):=fun w' h=>(P0.out.O.below h).2 2 (by simp)
 have t3:∀w',Below u.heap.size u w'->w'.cell? ⟨w.heap.size+1,3,none⟩=some (.int .i64 a.h):=fun w' h=>(P0.out.O.below h).2 3 (by simp)
 have t4:∀w',Below u.heap.size u w'->w'.cell? ⟨w.heap.size+1,4,none⟩=some (.int .i64 a.lo):=fun w' h=>(P0.out.O.below h).2 4 (by simp)
 have t5:∀w',Below u.heap.size u w'->w'.cell? ⟨w.heap.size+1,5,none⟩=some (.int .i64 a.hi):=fun w' h=>(P0.out.O.below h).2 5 (by simp)
 have t6:∀w',Below u.heap.size u w'->w'.cell? ⟨w.heap.size+1,6,none⟩=some (.int .i64 b.k):=fun w' h=>(P0.out.O.below h).2 6 (by simp)
 have t7:∀w',Below u.heap.size u w'->w'.cell? ⟨w.heap.size+1,7,none⟩=some (.bool b.s):=fun w' h=>(P0.out.O.below h).2 7 (by simp)
 have t8:∀w',Below u.heap.size u w'->w'.cell? ⟨w.heap.size+1,8,none⟩=some (.int .i64 b.m):=fun w' h=>(P0.out.O.below h).2 8 (by simp)
 have t9:∀w',Below u.heap.size u w'->w'.cell? ⟨w.heap.size+1,9,none⟩=some (.int .i64 b.h):=fun w' h=>(P0.out.O.below h).2 9 (by simp)
 have t10:∀w',Below u.heap.size u w'->w'.cell? ⟨w.heap.size+1,10,none⟩=some (.int .i64 b.lo):=fun w' h=>(P0.out.O.below h).2 10 (by simp)
 have t11:∀w',Below u.heap.size u w'->w'.cell? ⟨w.heap.size+1,11,none⟩=some (.int .i64 b.hi):=fun w' h=>(P0.out.O.below h).2 11 (by simp)
 refine wp_region_held_drew (S:=fun w'=>Below u.heap.size u w') (by kernel_rfl) (Below.refl _ _).drew (fun hHeld=>?_)
 refine wpAnyH_ta 0 rfl ?_
 refine wpAnyH_ta 1 rfl ?_
 refine wpAnyH_ta 3 rfl ?_
 refine wpAnyH_ta 4 rfl ?_
 clear t0 t1 t2 t3 t4 t5 t6 t7 t8 t9 t10 t11
 refine wpAnyH_ready (rs:=[2]) (by kernel_rfl) (by simp) ?_
 refine AllReadyH.cons rfl (fun KK hK=>?_) AllReadyH.nil
 go_simp
 refine(maxOf_any a.k a.s a.m a.h a.lo a.hi _).mono ?_
 rintro e v1⟨rfl,hb⟩
 have hv1:Below u.heap.size u v1:=(Below.refl _ _).drew.trans hb
 clear hb hHeld
 obtain⟨ma,hm⟩:∃m,maxV a=m:=⟨_,rfl⟩
 rw[show maxV ⟨a.k,a.s,a.m,a.h,a.lo,a.hi⟩=ma from hm]
 have HMA:Hid (maxV a=ma):=hm
 clear hm
 go_wp2_with fail
 refine hK.out _ _ hv1 (fun _=>?_)
 clear hK KK
 try go_frame
 refine wpAnyH_ready (rs:=[5]) (by kernel_rfl) (by simp) ?_
 refine AllReadyH.cons rfl (fun KK hK=>?_) AllReadyH.nil
 go_simp
 refine(maxOf_any b.k b.s b.m b.h b.lo b.hi _).mono ?_
 rintro e v2⟨rfl,hb⟩
 have hv2:Below u.heap.size u v2:=hv1.trans (hb.mono hv1.size)
 clear hb
 obtain⟨mb,hm⟩:∃m,maxV b=m:=⟨_,rfl⟩
 rw[show maxV ⟨b.k,b.s,b.m,b.h,b.lo,b.hi⟩=mb from hm]
 have HMB:Hid (maxV b=mb):=hm
 clear hm
 go_wp2_with fail
 refine hK.out _ _ hv2 (fun _=>?_)
 clear hK KK
 try go_frame
 refine wpAnyH_ta 6 rfl ?_
 refine wpAnyH_ta 7 rfl ?_
 refine wpAnyH_done (by kernel_rfl) ?_ _
 have P1:Hid (RoP w v2 3 d ra rb imm h a b fl sec):=P0.out.below hv2
 clear P0 hv1 hv2
 obtain⟨i0,i1,i2,i3,i4,i5⟩:=ins_cells P1.out.I
 obtain⟨o0,o1,o2,o3,o4,o5,o6,o7,o8,o9,o10,o11,o12,o13⟩:=ro_ops P1.out.O
 obtain⟨r0,r1,r2,r3,r4,r5⟩:=P1.out.R.cells
 have rf:=P1.out.R.free
 have rl:=P1.out.R.lt
 have q:=added_any a b fl sec
 rw[show(if ppB a b then{a with hi:=a.hi+b.m}else if ppB b a then{b with hi:=b.hi+a.m}else numV sec (sumI (maxV a) (maxV b)))=res from HR.out]at q
 have HQ:Hid (∀w,Bd a->Bd b->_):=q
 clear q
 go_wp2_with fail
 refine(HQ.out _ HA.out HB.out).mono ?_
 rintro e y1⟨rfl,hb⟩
 have P2:Hid (RoP w y1 3 d ra rb imm h a b fl sec):=P1.out.below hb
 clear hb
 clear i0 i1 i2 i3 i4 i5 o0 o1 o2 o3 o4 o5 o6 o7 o8 o9 o10 o11 o12 o13 r0 r1 r2 r3 r4 r5 rf rl
 obtain⟨i0,i1,i2,i3,i4,i5⟩:=ins_cells P2.out.I
 obtain⟨o0,o1,o2,o3,o4,o5,o6,o7,o8,o9,o10,o11,o12,o13⟩:=ro_ops P2.out.O
 obtain⟨r0,r1,r2,r3,r4,r5⟩:=P2.out.R.cells
 have rf:=P2.out.R.free
 have rl:=P2.out.R.lt
 simp only[VV.v]
 go_wp2
 exact bodyPost_ret (v:=VV.v res) (by simp[results,Tryz.results67,go_sem,VV.v, *]) rfl ⟨congrArg (fun q=>Ending.returned (VV.v q)) (rfl),below_putV P2.out.bel P2.out.oR _⟩
theorem resultOf_14(d ra rb imm h:Int)(a b:VV)(fl:Int)(sec:Bool)(hv:Value)(w:World)(ha:Bd a)(hb:Bd b):
 Calls Tryz.prog 67 #[.agg #[.int .i64 14,.int .i64 d,.int .i64 ra,.int .i64 rb,.int .i64 imm,.int .i64 h],.agg #[.int .i64 a.k,.bool a.s,.int .i64 a.m,.int .i64 a.h,.int .i64 a.lo,.int .i64 a.hi,.int .i64 b.k,.bool b.s,.int .i64 b.m,.int .i64 b.h,.int .i64 b.lo,.int .i64 b.hi,.int .i64 fl,.bool sec],hv] w fun e w'=>e=.returned (addV a b sec).v/\Below w.heap.size w w':=by
 obtain⟨res,hres⟩:∃r,(addV a b sec)=r:=⟨_,rfl⟩
 rw[hres]
 have HR:Hid ((addV a b sec)=res):=hres
 have HA:Hid (Bd a):=ha
 have HB:Hid (Bd b):=hb
 clear hres ha hb
 go_enter Tryz.func67,Tryz.ntmps67
 go_upto_region 1 with fail
 obtain⟨u,hu,pu⟩:=ro_pre w (op:=14) (d:=d) (ra:=ra) (rb:=rb) (imm:=imm) (h:=h) a b fl sec
 rw[hu]
 have P0:Hid (RoP w u 14 d ra rb imm h a b fl sec):=pu
 clear hu pu
 have t0:∀w',Below u.heap.size u w'->w'.cell? ⟨w.heap.size+1,0,none⟩=some (.int .i64 a.k):=fun w' h=>(P0.out.O.below h).2 0 (by simp)
 have t1:∀w',Below u.heap.size u w'->w'.cell? ⟨w.heap.size+1,1,none⟩=some (.bool a.s):=fun w' h=>(P0.out.O.below h).2 1 (by simp)
 have t2:∀w',Below u.heap.size u w'->w'.cell? ⟨w.heap.size+1,2,none⟩=some (.int .i64 a.m):=fun w' h=>(P0.out.O.below h).2 2 (by simp)
 have t3:∀w',Below u.heap.size u w'->w'.cell? ⟨w.heap.size+1,3,none⟩=some (.int .i64 a.h):=fun w' h=>(P0.out.O.below h).2 3 (by simp)
 have t4:∀w',Below u.heap.size u w'->w'.cell? ⟨w.heap.size+1,4,none⟩=some (.int .i64 a.lo):=fun w' h=>(P0.out.O.below h).2 4 (by simp)
 have t5:∀w',Below u.heap.size u w'->w'.cell? ⟨w.heap.size+1,5,none⟩=some (.int .i64 a.hi):=fun w' h=>(P0.out.O.below h).2 5 (by simp)
 have t6:∀w',Below u.heap.size u w'->w'.cell? ⟨w.heap.size+1,6,none⟩=some (.int .i64 b.k):=fun w' h=>(P0.out.O.below h).2 6 (by simp)
 have t7:∀w',Below u.heap.size u w'->w'.cell? ⟨w.heap.size+1,7,none⟩=some (.bool b.s):=fun w' h=>(P0.out.O.below h).2 7 (by simp)
 have t8:∀w',Below u.heap.size u w'->w'.cell? ⟨w.heap.size+1,8,none⟩=some (.int .i64 b.m):=fun w' h=>(P0.out.O.below h).2 8 (by simp)
 have t9:∀w',Below u.heap.size u w'->w'.cell? ⟨w.heap.size+1,9,none⟩=some (.int .i64 b.h):=fun w' h=>(P0.out.O.below h).2 9 (by simp)
 have t10:∀w',Below u.heap.size u w'->w'.cell? ⟨w.heap.size+1,10,none⟩=some (.int .i64 b.lo):=fun w' h=>(P0.out.O.below h).2 10 (by simp)
 have t11:∀w',Below u.heap.size u w'->w'.cell? ⟨w.heap.size+1,11,none⟩=some (.int .i64 b.hi):=fun w' h=>(P0.out.O.below h).2 11 (by simp)
 refine wp_region_held_drew (S:=fun w'=>Below u.heap.size u w') (by kernel_rfl) (Below.refl _ _).drew (fun hHeld=>?_)
 refine wpAnyH_ta 0 rfl ?_
 refine wpAnyH_ta 1 rfl ?_
 refine wpAnyH_ta 3 rfl ?_
 refine wpAnyH_ta 4 rfl ?_
 clear t0 t1 t2 t3 t4 t5 t6 t7 t8 t9 t10 t11
 refine wpAnyH_ready (rs:=[2]) (by kernel_rfl) (by simp) ?_
 refine AllReadyH.cons rfl (fun KK hK=>?_) AllReadyH.nil
 go_simp
 refine(maxOf_any a.k a.s a.m a.h a.lo a.hi _).mono ?_
 rintro e v1⟨rfl,hb⟩
 have hv1:Below u.heap.size u v1:=(Below.refl _ _).drew.trans hb
 clear hb hHeld
 obtain⟨ma,hm⟩:∃m,maxV a=m:=⟨_,rfl⟩
 rw[show maxV ⟨a.k,a.s,a.m,a.h,a.lo,a.hi⟩=ma from hm]
 have HMA:Hid (maxV a=ma):=hm
 clear hm
 go_wp2_with fail
 refine hK.out _ _ hv1 (fun _=>?_)
 clear hK KK
 try go_frame
 refine wpAnyH_ready (rs:=[5]) (by kernel_rfl) (by simp) ?_
 refine AllReadyH.cons rfl (fun KK hK=>?_) AllReadyH.nil
 go_simp
 refine(maxOf_any b.k b.s b.m b.h b.lo b.hi _).mono ?_
 rintro e v2⟨rfl,hb⟩
 have hv2:Below u.heap.size u v2:=hv1.trans (hb.mono hv1.size)
 clear hb
 obtain⟨mb,hm⟩:∃m,maxV b=m:=⟨_,rfl⟩
 rw[show maxV ⟨b.k,b.s,b.m,b.h,b.lo,b.hi⟩=mb from hm]
 have HMB:Hid (maxV b=mb):=hm
 clear hm
 go_wp2_with fail
 refine hK.out _ _ hv2 (fun _=>?_)
 clear hK KK
 try go_frame
 refine wpAnyH_ta 6 rfl ?_
 refine wpAnyH_ta 7 rfl ?_
 refine wpAnyH_done (by kernel_rfl) ?_ _
 have P1:Hid (RoP w v2 14 d ra rb imm h a b fl sec):=P0.out.below hv2
 clear P0 hv1 hv2
 obtain⟨i0,i1,i2,i3,i4,i5⟩:=ins_cells P1.out.I
 obtain⟨o0,o1,o2,o3,o4,o5,o6,o7,o8,o9,o10,o11,o12,o13⟩:=ro_ops P1.out.O
 obtain⟨r0,r1,r2,r3,r4,r5⟩:=P1.out.R.cells
 have rf:=P1.out.R.free
 have rl:=P1.out.R.lt
 have q:=added_any a b fl sec
 rw[show(if ppB a b then{a with hi:=a.hi+b.m}else if ppB b a then{b with hi:=b.hi+a.m}else numV sec (sumI (maxV a) (maxV b)))=res from HR.out]at q
 have HQ:Hid (∀w,Bd a->Bd b->_):=q
 clear q
 go_wp2_with fail
 refine(HQ.out _ HA.out HB.out).mono ?_
 rintro e y1⟨rfl,hb⟩
 have P2:Hid (RoP w y1 14 d ra rb imm h a b fl sec):=P1.out.below hb
 clear hb
 clear i0 i1 i2 i3 i4 i5 o0 o1 o2 o3 o4 o5 o6 o7 o8 o9 o10 o11 o12 o13 r0 r1 r2 r3 r4 r5 rf rl
 obtain⟨i0,i1,i2,i3,i4,i5⟩:=ins_cells P2.out.I
 obtain⟨o0,o1,o2,o3,o4,o5,o6,o7,o8,o9,o10,o11,o12,o13⟩:=ro_ops P2.out.O
 obtain⟨r0,r1,r2,r3,r4,r5⟩:=P2.out.R.cells
 have rf:=P2.out.R.free
 have rl:=P2.out.R.lt
 simp only[VV.v]
 go_wp2
 exact bodyPost_ret (v:=VV.v res) (by simp[results,Tryz.results67,go_sem,VV.v, *]) rfl ⟨congrArg (fun q=>Ending.returned (VV.v q)) (rfl),below_putV P2.out.bel P2.out.oR _⟩
theorem resultOf_10(d ra rb imm h:Int)(a b:VV)(fl:Int)(sec:Bool)(hv:Value)(w:World)(ha:Bd a)(hb:Bd b)(n0: -1000000<=imm)(n1:imm<=1000000):
 Calls Tryz.prog 67 #[.agg #[.int .i64 10,.int .i64 d,.int .i64 ra,.int .i64 rb,.int .i64 imm,.int .i64 h],.agg #[.int .i64 a.k,.bool a.s,.int .i64 a.m,.int .i64 a.h,.int .i64 a.lo,.int .i64 a.hi,.int .i64 b.k,.bool b.s,.int .i64 b.m,.int .i64 b.h,.int .i64 b.lo,.int .i64 b.hi,.int .i64 fl,.bool sec],hv] w fun e w'=>e=.returned (movV a sec imm).v/\Below w.heap.size w w':=by
 obtain⟨res,hres⟩:∃r,(movV a sec imm)=r:=⟨_,rfl⟩
 rw[hres]
 have HR:Hid ((movV a sec imm)=res):=hres
 have HA:Hid (Bd a):=ha
 have HB:Hid (Bd b):=hb
 clear hres ha hb
 have N0:Hid (-1000000<=imm):=n0
 have N1:Hid (imm<=1000000):=n1
 clear n0 n1
 go_enter Tryz.func67,Tryz.ntmps67
 go_upto_region 1 with fail
 obtain⟨u,hu,pu⟩:=ro_pre w (op:=10) (d:=d) (ra:=ra) (rb:=rb) (imm:=imm) (h:=h) a b fl sec
 rw[hu]
 have P0:Hid (RoP w u 10 d ra rb imm h a b fl sec):=pu
 clear hu pu
 have t0:∀w',Below u.heap.size u w'->w'.cell? ⟨w.heap.size+1,0,none⟩=some (.int .i64 a.k):=fun w' h=>(P0.out.O.below h).2 0 (by simp)
 have t1:∀w',Below u.heap.size u w'->w'.cell? ⟨w.heap.size+1,1,none⟩=some (.bool a.s):=fun w' h=>(P0.out.O.below h).2 1 (by simp)
 have t2:∀w',Below u.heap.size u w'->w'.cell? ⟨w.heap.size+1,2,none⟩=some (.int .i64 a.m):=fun w' h=>(P0.out.O.below h).2 2 (by simp)
 have t3:∀w',Below u.heap.size u w'->w'.cell? ⟨w.heap.size+1,3,none⟩=some (.int .i64 a.h):=fun w' h=>(P0.out.O.below h).2 3 (by simp)
 have t4:∀w',Below u.heap.size u w'->w'.cell? ⟨w.heap.size+1,4,none⟩=some (.int .i64 a.lo):=fun w' h=>(P0.out.O.below h).2 4 (by simp)
 have t5:∀w',Below u.heap.size u w'->w'.cell? ⟨w.heap.size+1,5,none⟩=some (.int .i64 a.hi):=fun w' h=>(P0.out.O.below h).2 5 (by simp)
 have t6:∀w',Below u.heap.size u w'->w'.cell? ⟨w.heap.size+1,6,none⟩=some (.int .i64 b.k):=fun w' h=>(P0.out.O.below h).2 6 (by simp)
 have t7:∀w',Below u.heap.size u w'->w'.cell? ⟨w.heap.size+1,7,none⟩=some (.bool b.s):=fun w' h=>(P0.out.O.below h).2 7 (by simp)
 have t8:∀w',Below u.heap.size u w'->w'.cell? ⟨w.heap.size+1,8,none⟩=some (.int .i64 b.m):=fun w' h=>(P0.out.O.below h).2 8 (by simp)
 have t9:∀w',Below u.heap.size u w'->w'.cell? ⟨w.heap.size+1,9,none⟩=some (.int .i64 b.h):=fun w' h=>(P0.out.O.below h).2 9 (by simp)
 have t10:∀w',Below u.heap.size u w'->w'.cell? ⟨w.heap.size+1,10,none⟩=some (.int .i64 b.lo):=fun w' h=>(P0.out.O.below h).2 10 (by simp)
 have t11:∀w',Below u.heap.size u w'->w'.cell? ⟨w.heap.size+1,11,none⟩=some (.int .i64 b.hi):=fun w' h=>(P0.out.O.below h).2 11 (by simp)
 refine wp_region_held_drew (S:=fun w'=>Below u.heap.size u w') (by kernel_rfl) (Below.refl _ _).drew (fun hHeld=>?_)
 refine wpAnyH_ta 0 rfl ?_
 refine wpAnyH_ta 1 rfl ?_
 refine wpAnyH_ta 3 rfl ?_
 refine wpAnyH_ta 4 rfl ?_
 clear t0 t1 t2 t3 t4 t5 t6 t7 t8 t9 t10 t11
 refine wpAnyH_ready (rs:=[2]) (by kernel_rfl) (by simp) ?_
 refine AllReadyH.cons rfl (fun KK hK=>?_) AllReadyH.nil
 go_simp
 refine(maxOf_any a.k a.s a.m a.h a.lo a.hi _).mono ?_
 rintro e v1⟨rfl,hb⟩
 have hv1:Below u.heap.size u v1:=(Below.refl _ _).drew.trans hb
 clear hb hHeld
 obtain⟨ma,hm⟩:∃m,maxV a=m:=⟨_,rfl⟩
 rw[show maxV ⟨a.k,a.s,a.m,a.h,a.lo,a.hi⟩=ma from hm]
 have HMA:Hid (maxV a=ma):=hm
 clear hm
 go_wp2_with fail
 refine hK.out _ _ hv1 (fun _=>?_)
 clear hK KK
 try go_frame
 refine wpAnyH_ready (rs:=[5]) (by kernel_rfl) (by simp) ?_
 refine AllReadyH.cons rfl (fun KK hK=>?_) AllReadyH.nil
 go_simp
 refine(maxOf_any b.k b.s b.m b.h b.lo b.hi _).mono ?_
 rintro e v2⟨rfl,hb⟩
 have hv2:Below u.heap.size u v2:=hv1.trans (hb.mono hv1.size)
 clear hb
 obtain⟨mb,hm⟩:∃m,maxV b=m:=⟨_,rfl⟩
 rw[show maxV ⟨b.k,b.s,b.m,b.h,b.lo,b.hi⟩=mb from hm]
 have HMB:Hid (maxV b=mb):=hm
 clear hm
 go_wp2_with fail
 refine hK.out _ _ hv2 (fun _=>?_)
 clear hK KK
 try go_frame
 refine wpAnyH_ta 6 rfl ?_
 refine wpAnyH_ta 7 rfl ?_
 refine wpAnyH_done (by kernel_rfl) ?_ _
 have P1:Hid (RoP w v2 10 d ra rb imm h a b fl sec):=P0.out.below hv2
 clear P0 hv1 hv2
 obtain⟨i0,i1,i2,i3,i4,i5⟩:=ins_cells P1.out.I
 obtain⟨o0,o1,o2,o3,o4,o5,o6,o7,o8,o9,o10,o11,o12,o13⟩:=ro_ops P1.out.O
 obtain⟨r0,r1,r2,r3,r4,r5⟩:=P1.out.R.cells
 have rf:=P1.out.R.free
 have rl:=P1.out.R.lt
 have q:=moved_any a b fl sec imm
 rw[show(if a.k=1 then(if a.lo+imm< -1099511627776∨1099511627776<a.hi+imm then numV false (-1)else{a with lo:=a.lo+imm,hi:=a.hi+imm})else numV sec (sumI a.m imm))=res from HR.out]at q
 have HQ:Hid (∀w,Bd a-> -1000000<=imm->imm<=1000000->_):=q
 clear q
 go_wp2_with fail
 refine(HQ.out _ HA.out N0.out N1.out).mono ?_
 rintro e y1⟨rfl,hb⟩
 have P2:Hid (RoP w y1 10 d ra rb imm h a b fl sec):=P1.out.below hb
 clear hb
 clear i0 i1 i2 i3 i4 i5 o0 o1 o2 o3 o4 o5 o6 o7 o8 o9 o10 o11 o12 o13 r0 r1 r2 r3 r4 r5 rf rl
 obtain⟨i0,i1,i2,i3,i4,i5⟩:=ins_cells P2.out.I
 obtain⟨o0,o1,o2,o3,o4,o5,o6,o7,o8,o9,o10,o11,o12,o13⟩:=ro_ops P2.out.O
 obtain⟨r0,r1,r2,r3,r4,r5⟩:=P2.out.R.cells
 have rf:=P2.out.R.free
 have rl:=P2.out.R.lt
 simp only[VV.v]
 go_wp2
 exact bodyPost_ret (v:=VV.v res) (by simp[results,Tryz.results67,go_sem,VV.v, *]) rfl ⟨congrArg (fun q=>Ending.returned (VV.v q)) (rfl),below_putV P2.out.bel P2.out.oR _⟩
theorem resultOf_19(d ra rb imm h:Int)(a b:VV)(fl:Int)(sec:Bool)(hv:Value)(w:World)(ha:Bd a)(hb:Bd b):
 Calls Tryz.prog 67 #[.agg #[.int .i64 19,.int .i64 d,.int .i64 ra,.int .i64 rb,.int .i64 imm,.int .i64 h],.agg #[.int .i64 a.k,.bool a.s,.int .i64 a.m,.int .i64 a.h,.int .i64 a.lo,.int .i64 a.hi,.int .i64 b.k,.bool b.s,.int .i64 b.m,.int .i64 b.h,.int .i64 b.lo,.int .i64 b.hi,.int .i64 fl,.bool sec],hv] w fun e w'=>e=.returned (selV a b sec).v/\Below w.heap.size w w':=by
 obtain⟨res,hres⟩:∃r,(selV a b sec)=r:=⟨_,rfl⟩
 rw[hres]
 have HR:Hid ((selV a b sec)=res):=hres
 have HA:Hid (Bd a):=ha
 have HB:Hid (Bd b):=hb
 clear hres ha hb
 go_enter Tryz.func67,Tryz.ntmps67
 go_upto_region 1 with fail
 obtain⟨u,hu,pu⟩:=ro_pre w (op:=19) (d:=d) (ra:=ra) (rb:=rb) (imm:=imm) (h:=h) a b fl sec
 rw[hu]
 have P0:Hid (RoP w u 19 d ra rb imm h a b fl sec):=pu
 clear hu pu
 have t0:∀w',Below u.heap.size u w'->w'.cell? ⟨w.heap.size+1,0,none⟩=some (.int .i64 a.k):=fun w' h=>(P0.out.O.below h).2 0 (by simp)
 have t1:∀w',Below u.heap.size u w'->w'.cell? ⟨w.heap.size+1,1,none⟩=some (.bool a.s):=fun w' h=>(P0.out.O.below h).2 1 (by simp)
 have t2:∀w',Below u.heap.size u w'->w'.cell? ⟨w.heap.size+1,2,none⟩=some (.int .i64 a.m):=fun w' h=>(P0.out.O.below h).2 2 (by simp)
 have t3:∀w',Below u.heap.size u w'->w'.cell? ⟨w.heap.size+1,3,none⟩=some (.int .i64 a.h):=fun w' h=>(P0.out.O.below h).2 3 (by simp)
 have t4:∀w',Below u.heap.size u w'->w'.cell? ⟨w.heap.size+1,4,none⟩=some (.int .i64 a.lo):=fun w' h=>(P0.out.O.below h).2 4 (by simp)
 have t5:∀w',Below u.heap.size u w'->w'.cell? ⟨w.heap.size+1,5,none⟩=some (.int .i64 a.hi):=fun w' h=>(P0.out.O.below h).2 5 (by simp)
 have t6:∀w',Below u.heap.size u w'->w'.cell? ⟨w.heap.size+1,6,none⟩=some (.int .i64 b.k):=fun w' h=>(P0.out.O.below h).2 6 (by simp)
 have t7:∀w',Below u.heap.size u w'->w'.cell? ⟨w.heap.size+1,7,none⟩=some (.bool b.s):=fun w' h=>(P0.out.O.below h).2 7 (by simp)
 have t8:∀w',Below u.heap.size u w'->w'.cell? ⟨w.heap.size+1,8,none⟩=some (.int .i64 b.m):=fun w' h=>(P0.out.O.below h).2 8 (by simp)
 have t9:∀w',Below u.heap.size u w'->w'.cell? ⟨w.heap.size+1,9,none⟩=some (.int .i64 b.h):=fun w' h=>(P0.out.O.below h).2 9 (by simp)
 have t10:∀w',Below u.heap.size u w'->w'.cell? ⟨w.heap.size+1,10,none⟩=some (.int .i64 b.lo):=fun w' h=>(P0.out.O.below h).2 10 (by simp)
 have t11:∀w',Below u.heap.size u w'->w'.cell? ⟨w.heap.size+1,11,none⟩=some (.int .i64 b.hi):=fun w' h=>(P0.out.O.below h).2 11 (by simp)
 refine wp_region_held_drew (S:=fun w'=>Below u.heap.size u w') (by kernel_rfl) (Below.refl _ _).drew (fun hHeld=>?_)
 refine wpAnyH_ta 0 rfl ?_
 refine wpAnyH_ta 1 rfl ?_
 refine wpAnyH_ta 3 rfl ?_
 refine wpAnyH_ta 4 rfl ?_
 clear t0 t1 t2 t3 t4 t5 t6 t7 t8 t9 t10 t11
 refine wpAnyH_ready (rs:=[2]) (by kernel_rfl) (by simp) ?_
 refine AllReadyH.cons rfl (fun KK hK=>?_) AllReadyH.nil
 go_simp
 refine(maxOf_any a.k a.s a.m a.h a.lo a.hi _).mono ?_
 rintro e v1⟨rfl,hb⟩
 have hv1:Below u.heap.size u v1:=(Below.refl _ _).drew.trans hb
 clear hb hHeld
 obtain⟨ma,hm⟩:∃m,maxV a=m:=⟨_,rfl⟩
 rw[show maxV ⟨a.k,a.s,a.m,a.h,a.lo,a.hi⟩=ma from hm]
 have HMA:Hid (maxV a=ma):=hm
 clear hm
 go_wp2_with fail
 refine hK.out _ _ hv1 (fun _=>?_)
 clear hK KK
 try go_frame
 refine wpAnyH_ready (rs:=[5]) (by kernel_rfl) (by simp) ?_
 refine AllReadyH.cons rfl (fun KK hK=>?_) AllReadyH.nil
 go_simp
 refine(maxOf_any b.k b.s b.m b.h b.lo b.hi _).mono ?_
 rintro e v2⟨rfl,hb⟩
 have hv2:Below u.heap.size u v2:=hv1.trans (hb.mono hv1.size)
 clear hb
 obtain⟨mb,hm⟩:∃m,maxV b=m:=⟨_,rfl⟩
 rw[show maxV ⟨b.k,b.s,b.m,b.h,b.lo,b.hi⟩=mb from hm]
 have HMB:Hid (maxV b=mb):=hm
 clear hm
 go_wp2_with fail
 refine hK.out _ _ hv2 (fun _=>?_)
 clear hK KK
 try go_frame
 refine wpAnyH_ta 6 rfl ?_
 refine wpAnyH_ta 7 rfl ?_
 refine wpAnyH_done (by kernel_rfl) ?_ _
 have P1:Hid (RoP w v2 19 d ra rb imm h a b fl sec):=P0.out.below hv2
 clear P0 hv1 hv2
 obtain⟨i0,i1,i2,i3,i4,i5⟩:=ins_cells P1.out.I
 obtain⟨o0,o1,o2,o3,o4,o5,o6,o7,o8,o9,o10,o11,o12,o13⟩:=ro_ops P1.out.O
 obtain⟨r0,r1,r2,r3,r4,r5⟩:=P1.out.R.cells
 have rf:=P1.out.R.free
 have rl:=P1.out.R.lt
 have q:=selected_any a b fl sec
 rw[show(if(joinV a b).k=1/\sec=true then numV true (-1)else{joinV a b with s:=sec})=res from HR.out]at q
 have HQ:Hid (∀w,_):=q
 clear q
 go_wp2_with fail
 refine(HQ.out _).mono ?_
 rintro e y1⟨rfl,hb⟩
 have P2:Hid (RoP w y1 19 d ra rb imm h a b fl sec):=P1.out.below hb
 clear hb
 clear i0 i1 i2 i3 i4 i5 o0 o1 o2 o3 o4 o5 o6 o7 o8 o9 o10 o11 o12 o13 r0 r1 r2 r3 r4 r5 rf rl
 obtain⟨i0,i1,i2,i3,i4,i5⟩:=ins_cells P2.out.I
 obtain⟨o0,o1,o2,o3,o4,o5,o6,o7,o8,o9,o10,o11,o12,o13⟩:=ro_ops P2.out.O
 obtain⟨r0,r1,r2,r3,r4,r5⟩:=P2.out.R.cells
 have rf:=P2.out.R.free
 have rl:=P2.out.R.lt
 simp only[VV.v]
 go_wp2
 exact bodyPost_ret (v:=VV.v res) (by simp[results,Tryz.results67,go_sem,VV.v, *]) rfl ⟨congrArg (fun q=>Ending.returned (VV.v q)) (rfl),below_putV P2.out.bel P2.out.oR _⟩
theorem resultOf_20(d ra rb imm h:Int)(a b:VV)(fl:Int)(sec:Bool)(hv:Value)(w:World)(ha:Bd a)(hb:Bd b):
 Calls Tryz.prog 67 #[.agg #[.int .i64 20,.int .i64 d,.int .i64 ra,.int .i64 rb,.int .i64 imm,.int .i64 h],.agg #[.int .i64 a.k,.bool a.s,.int .i64 a.m,.int .i64 a.h,.int .i64 a.lo,.int .i64 a.hi,.int .i64 b.k,.bool b.s,.int .i64 b.m,.int .i64 b.h,.int .i64 b.lo,.int .i64 b.hi,.int .i64 fl,.bool sec],hv] w fun e w'=>e=.returned (selV a b sec).v/\Below w.heap.size w w':=by
 obtain⟨res,hres⟩:∃r,(selV a b sec)=r:=⟨_,rfl⟩
 rw[hres]
 have HR:Hid ((selV a b sec)=res):=hres
 have HA:Hid (Bd a):=ha
 have HB:Hid (Bd b):=hb
 clear hres ha hb
 go_enter Tryz.func67,Tryz.ntmps67
 go_upto_region 1 with fail
 obtain⟨u,hu,pu⟩:=ro_pre w (op:=20) (d:=d) (ra:=ra) (rb:=rb) (imm:=imm) (h:=h) a b fl sec
 rw[hu]
 have P0:Hid (RoP w u 20 d ra rb imm h a b fl sec):=pu
 clear hu pu
 have t0:∀w',Below u.heap.size u w'->w'.cell? ⟨w.heap.size+1,0,none⟩=some (.int .i64 a.k):=fun w' h=>(P0.out.O.below h).2 0 (by simp)
 have t1:∀w',Below u.heap.size u w'->w'.cell? ⟨w.heap.size+1,1,none⟩=some (.bool a.s):=fun w' h=>(P0.out.O.below h).2 1 (by simp)
 have t2:∀w',Below u.heap.size u w'->w'.cell? ⟨w.heap.size+1,2,none⟩=some (.int .i64 a.m):=fun w' h=>(P0.out.O.below h).2 2 (by simp)
 have t3:∀w',Below u.heap.size u w'->w'.cell? ⟨w.heap.size+1,3,none⟩=some (.int .i64 a.h):=fun w' h=>(P0.out.O.below h).2 3 (by simp)
 have t4:∀w',Below u.heap.size u w'->w'.cell? ⟨w.heap.size+1,4,none⟩=some (.int .i64 a.lo):=fun w' h=>(P0.out.O.below h).2 4 (by simp)
 have t5:∀w',Below u.heap.size u w'->w'.cell? ⟨w.heap.size+1,5,none⟩=some (.int .i64 a.hi):=fun w' h=>(P0.out.O.below h).2 5 (by simp)
 have t6:∀w',Below u.heap.size u w'->w'.cell? ⟨w.heap.size+1,6,none⟩=some (.int .i64 b.k):=fun w' h=>(P0.out.O.below h).2 6 (by simp)
 have t7:∀w',Below u.heap.size u w'->w'.cell? ⟨w.heap.size+1,7,none⟩=some (.bool b.s):=fun w' h=>(P0.out.O.below h).2 7 (by simp)
 have t8:∀w',Below u.heap.size u w'->w'.cell? ⟨w.heap.size+1,8,none⟩=some (.int .i64 b.m):=fun w' h=>(P0.out.O.below h).2 8 (by simp)
 have t9:∀w',Below u.heap.size u w'->w'.cell? ⟨w.heap.size+1,9,none⟩=some (.int .i64 b.h):=fun w' h=>(P0.out.O.below h).2 9 (by simp)
 have t10:∀w',Below u.heap.size u w'->w'.cell? ⟨w.heap.size+1,10,none⟩=some (.int .i64 b.lo):=fun w' h=>(P0.out.O.below h).2 10 (by simp)
 have t11:∀w',Below u.heap.size u w'->w'.cell? ⟨w.heap.size+1,11,none⟩=some (.int .i64 b.hi):=fun w' h=>(P0.out.O.below h).2 11 (by simp)
 refine wp_region_held_drew (S:=fun w'=>Below u.heap.size u w') (by kernel_rfl) (Below.refl _ _).drew (fun hHeld=>?_)
 refine wpAnyH_ta 0 rfl ?_
 refine wpAnyH_ta 1 rfl ?_
 refine wpAnyH_ta 3 rfl ?_
 refine wpAnyH_ta 4 rfl ?_
 clear t0 t1 t2 t3 t4 t5 t6 t7 t8 t9 t10 t11
 refine wpAnyH_ready (rs:=[2]) (by kernel_rfl) (by simp) ?_
 refine AllReadyH.cons rfl (fun KK hK=>?_) AllReadyH.nil
 go_simp
 refine(maxOf_any a.k a.s a.m a.h a.lo a.hi _).mono ?_
 rintro e v1⟨rfl,hb⟩
 have hv1:Below u.heap.size u v1:=(Below.refl _ _).drew.trans hb
 clear hb hHeld
 obtain⟨ma,hm⟩:∃m,maxV a=m:=⟨_,rfl⟩
 rw[show maxV ⟨a.k,a.s,a.m,a.h,a.lo,a.hi⟩=ma from hm]
 have HMA:Hid (maxV a=ma):=hm
 clear hm
 go_wp2_with fail
 refine hK.out _ _ hv1 (fun _=>?_)
 clear hK KK
 try go_frame
 refine wpAnyH_ready (rs:=[5]) (by kernel_rfl) (by simp) ?_
 refine AllReadyH.cons rfl (fun KK hK=>?_) AllReadyH.nil
 go_simp
 refine(maxOf_any b.k b.s b.m b.h b.lo b.hi _).mono ?_
 rintro e v2⟨rfl,hb⟩
 have hv2:Below u.heap.size u v2:=hv1.trans (hb.mono hv1.size)
 clear hb
 obtain⟨mb,hm⟩:∃m,maxV b=m:=⟨_,rfl⟩
 rw[show maxV ⟨b.k,b.s,b.m,b.h,b.lo,b.hi⟩=mb from hm]
 have HMB:Hid (maxV b=mb):=hm
 clear hm
 go_wp2_with fail
 refine hK.out _ _ hv2 (fun _=>?_)
 clear hK KK
 try go_frame
 refine wpAnyH_ta 6 rfl ?_
 refine wpAnyH_ta 7 rfl ?_
 refine wpAnyH_done (by kernel_rfl) ?_ _
 have P1:Hid (RoP w v2 20 d ra rb imm h a b fl sec):=P0.out.below hv2
 clear P0 hv1 hv2
 obtain⟨i0,i1,i2,i3,i4,i5⟩:=ins_cells P1.out.I
 obtain⟨o0,o1,o2,o3,o4,o5,o6,o7,o8,o9,o10,o11,o12,o13⟩:=ro_ops P1.out.O
 obtain⟨r0,r1,r2,r3,r4,r5⟩:=P1.out.R.cells
 have rf:=P1.out.R.free
 have rl:=P1.out.R.lt
 have q:=selected_any a b fl sec
 rw[show(if(joinV a b).k=1/\sec=true then numV true (-1)else{joinV a b with s:=sec})=res from HR.out]at q
 have HQ:Hid (∀w,_):=q
 clear q
 go_wp2_with fail
 refine(HQ.out _).mono ?_
 rintro e y1⟨rfl,hb⟩
 have P2:Hid (RoP w y1 20 d ra rb imm h a b fl sec):=P1.out.below hb
 clear hb
 clear i0 i1 i2 i3 i4 i5 o0 o1 o2 o3 o4 o5 o6 o7 o8 o9 o10 o11 o12 o13 r0 r1 r2 r3 r4 r5 rf rl
 obtain⟨i0,i1,i2,i3,i4,i5⟩:=ins_cells P2.out.I
 obtain⟨o0,o1,o2,o3,o4,o5,o6,o7,o8,o9,o10,o11,o12,o13⟩:=ro_ops P2.out.O
 obtain⟨r0,r1,r2,r3,r4,r5⟩:=P2.out.R.cells
 have rf:=P2.out.R.free
 have rl:=P2.out.R.lt
 simp only[VV.v]
 go_wp2
 exact bodyPost_ret (v:=VV.v res) (by simp[results,Tryz.results67,go_sem,VV.v, *]) rfl ⟨congrArg (fun q=>Ending.returned (VV.v q)) (rfl),below_putV P2.out.bel P2.out.oR _⟩
end Go.Proofs.YtbahofiiaodpdaaGreat
