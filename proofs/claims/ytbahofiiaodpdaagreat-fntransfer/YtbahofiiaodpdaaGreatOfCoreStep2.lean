import Derived.Test.YtbahofiiaodpdaaGreatCoreLoad2
import Derived.Test.YtbahofiiaodpdaaGreatOfCoreAdd
import Derived.Test.YtbahofiiaodpdaaGreatOfFlatAny
import Derived.Test.YtbahofiiaodpdaaGreatOfCl
set_option maxHeartbeats 2000000
namespace Go.Proofs.YtbahofiiaodpdaaGreat
open Go.RowKit
def stepM(len:Nat)(F:Nat->Nat->Int)(M:MV):MV:=
 if(len:Int)<=M.pc then M.fault
 else match exec (F M.pc.toNat 0).toNat (F M.pc.toNat 1).toNat (F M.pc.toNat 2).toNat (F M.pc.toNat 3).toNat (F M.pc.toNat 5).toNat (F M.pc.toNat 4) M (M.pc+1)with
  |.inl (M',nx)=>{M' with pc:=nx}
  |.inr M'=>M'.fault
theorem field_range{u:Bool}{v:Int}(h:fieldB u v 0 7=true):0<=v/\v<=7:=by
 unfold fieldB inB at h;cases u<;>simp at h<;>omega
theorem ins_range{op d a b imm h:Int}(hi:implIns op d a b imm h=true):(1<=op/\op<=34)/\(0<=d/\d<=7)/\(0<=a/\a<=7)/\(0<=b/\b<=7)/\(0<=h/\h<=7):=by
 unfold implIns at hi;simp only[Bool.and_eq_true]at hi;obtain⟨⟨⟨⟨⟨h1,h2⟩,h3⟩,h4⟩,_⟩,h6⟩:=hi;have h1':1<=op/\op<=34:=by unfold inB at h1;simpa using h1
 exact⟨h1',field_range h2,field_range h3,field_range h4,field_range h6⟩
section
variable{w:World}{base bC:Nat}{p:Pl}{nx:Int}{tab:List Value}{M:MV}
theorem step_out(h0:Core w base bC p nx tab M)(ao:Option Addr)(len cap:Nat)(F:Nat->Nat->Int)(hpc:(len:Int)<=M.pc):
 Calls Tryz.prog 41 #[.pointer (some ⟨bC,0,none⟩),.slice ao len cap] w fun e w'=>e=.returned (.tuple #[])/\Below base w w'/\∃p' nx',Core w' base bC p' nx' tab (stepM len F M):=by
 have hmf:∀(fn:Fn)(first cap:Array Value)(w:World),(Instr.makeFunc fn first cap).run Tryz.prog w=.ok (.func fn first cap) w:=fun _ _ _ _=>rfl
 have hC:=h0.lt.2;have c6:=h0.c6;have H0:Hid (Core w base bC p nx tab M):=h0;clear h0;go_enter_defers Tryz.func41,Tryz.ntmps41;go_wp2_with fail;have X1:Below w.heap.size w (w.alloc (.cells #[.pointer (some ⟨bC,0,none⟩)] 84)):=(Below.refl _ _).alloc (Nat.le_refl _) _;have C1:=H0.out.below X1;refine(fetch_no bC ao len cap M.pc _ C1.lt.2 C1.c6 hpc).mono ?_;rintro e w1⟨rfl,hb1⟩;have C2:=C1.below hb1;have cV:w1.cell? ⟨w.heap.size,0,none⟩=some (.pointer (some ⟨bC,0,none⟩)):=(hb1.cell (p:=⟨w.heap.size,0,none⟩) (by simp)).trans (by simp[go_sem]);have zV:w.heap.size<w1.heap.size:=by have:=hb1.size;simp at this;omega
 refine leaves_cons (f:=78) (args:=#[.pointer (some ⟨w.heap.size,0,none⟩)]) (by simp) (by simp[go_sem]) ?_;refine(catch_fault w.heap.size bC M.st [] w1 zV C2.lt.2 cV C2.c7 (C2.free 7)).mono ?_;rintro e u' w2⟨rfl,rfl,rfl⟩;have hr:stepM len F M=M.fault:=by unfold stepM;rw[if_pos hpc]
 rw[hr];have C3:Core ((w1.setCell ⟨bC,7,none⟩ (.int .i64 2)).alloc (.cells #[] 124)) base bC p nx tab M.fault:=(C2.setSt 2).below ((Below.refl _ _).alloc (Nat.le_refl _) _);have B3:Below base w ((w1.setCell ⟨bC,7,none⟩ (.int .i64 2)).alloc (.cells #[] 124)):=((((X1.trans (hb1.mono (by simp))).mono H0.out.size).setCell (by simpa using H0.out.lt.1) _)).alloc (by simp;exact C2.size) _;have H3:Hid _:=C3;have HB3:Hid _:=B3;clear C3 B3 C2 C1 hb1 X1 H0 cV hr;simp[Leaves,settle,results,Tryz.results41,go_sem];exact⟨HB3.out,_,_,H3.out⟩
end
theorem leaves_tmps{P:Program}{fn:Func}{R:Ending->World->Prop}(hr:fn.results=#[])(tmps tmps':Array Value):∀(ds:List Deferred)(u:FrameMode)(w:World),Leaves P fn tmps R ds u w->Leaves P fn tmps' R ds u w
 |[],.returning,w,h=>by
  obtain⟨v,h1,h2⟩:=h;refine⟨v,?_,h2⟩;rw[results_none hr]at h1⊢;exact h1
 |[],.panicking _,_,h=>h
 |[],.run,_,h=>h
 |d::ds,u,w,h=>by
  obtain⟨h1,fv,cap,f,args,h2,h3,h4⟩:=h;refine⟨h1,fv,cap,f,args,h2,h3,h4.mono fun e u' w' hq=>?_⟩;cases e with
  |returned v=>exact leaves_tmps hr tmps tmps' ds _ _ hq
  |panicked c=>exact leaves_tmps hr tmps tmps' ds _ _ hq
  |outgrown=>exact hq
theorem pan_put{P:Program}{fn:Func}{R:Ending->World->Prop}(hr:fn.results=#[]){c:List PanicEntry}{a:Act}{d:Option Tmp}{v:Value}{w:World}(h:bodyPostD P fn R (.panic c) (a.put d v) w):bodyPostD P fn R (.panic c) a w:=by
 have hd:(a.put d v).defers=a.defers:=by unfold Act.put;cases d<;>rfl
 unfold bodyPostD at h⊢;simp only at h⊢;rw[hd]at h;exact leaves_tmps hr _ _ _ _ _ h
section
variable{w:World}{base bC:Nat}{p:Pl}{nx:Int}{tab:List Value}{M:MV}
theorem step_in(h0:Core w base bC p nx tab M)(b off len cap q:Nat)(F:Nat->Nat->Int)(hq:M.pc=q)(hql:q<len)(hl:len<=2000)(hat:At w b off (len*6) (insF F))(op d a b' h:Nat)(imm:Int)
 (f0:F q 0=op)(f1:F q 1=d)(f2:F q 2=a)(f3:F q 3=b')(f4:F q 4=imm)(f5:F q 5=h)(o2:op<=34)(v:Value)(hv:tab[op]?=some v)(f:Nat)(caps:Array Value)(hvf:v=.func (.func f) #[] caps)(hent:∀args w,(callFunc f args).run Tryz.prog w=.ok (.enter f args) w)
 (hcall:∀w',Core w' base bC p (M.pc+1) tab M->Calls Tryz.prog f (#[.pointer (some ⟨bC,0,none⟩),.agg #[.int .i64 op,.int .i64 d,.int .i64 a,.int .i64 b',.int .i64 imm,.int .i64 h]]++caps) w' (Res base bC tab w' (exec op d a b' h imm M (M.pc+1)))):
 Calls Tryz.prog 41 #[.pointer (some ⟨bC,0,none⟩),.slice (some ⟨b,off,none⟩) len cap] w fun e w'=>e=.returned (.tuple #[])/\Below base w w'/\∃p' nx',Core w' base bC p' nx' tab (match exec op d a b' h imm M (M.pc+1)with
 |.inl (M',nx)=>{M' with pc:=nx}
 |.inr M'=>M'.fault):=by
 have hmf:∀(fn:Fn)(first cap:Array Value)(w:World),(Instr.makeFunc fn first cap).run Tryz.prog w=.ok (.func fn first cap) w:=fun _ _ _ _=>rfl
 have hC:=h0.lt.2
 have c6:=h0.c6
 have H0:Hid (Core w base bC p nx tab M):=h0
 have HAT:Hid (At w b off (len*6) (insF F)):=hat
 have HCALL:Hid _:=hcall
 have ho:(op:Int)<35:=by omega
 clear h0 hat hcall
 go_enter_defers Tryz.func41,Tryz.ntmps41
 go_wp2_with fail
 have X1:Below w.heap.size w (w.alloc (.cells #[.pointer (some ⟨bC,0,none⟩)] 84)):=(Below.refl _ _).alloc (Nat.le_refl _) _
 have C1:=H0.out.below X1
 have c6':=C1.c6
 rw[hq]at c6'
 refine(fetch_yes bC b off len cap q F _ C1.lt.2 c6' hql (HAT.out.below X1 HAT.out.lt)).mono ?_
 rintro e w1⟨rfl,hb1⟩
 have C2:=C1.below hb1
 have kV1:Cell1 w1 w.heap.size (.pointer (some ⟨bC,0,none⟩)) 84:=Cell1.below (heap_alloc_new w _) hb1
 have cV:w1.cell? ⟨w.heap.size,0,none⟩=some (.pointer (some ⟨bC,0,none⟩)):=(hb1.cell (p:=⟨w.heap.size,0,none⟩) (by simp)).trans (by simp[go_sem])
 have zV:w.heap.size<w1.heap.size:=by have:=hb1.size;simp at this;omega
 rw[f0,f1,f2,f3,f4,f5]
 have e6:w1.cell? ⟨bC,6,none⟩=some (.int .i64 q):=C2.c6.trans (by rw[hq])
 have e9:w1.cell? ⟨bC,9,none⟩=some (.int .i64 nx):=C2.c9
 have ff:=C2.free
 have zC:=C2.lt.2
 have B1:Below base w w1:=(X1.trans (hb1.mono (by simp))).mono H0.out.size
 have H2:Hid (Core w1 base bC p nx tab M):=C2
 have HB1:Hid (Below base w w1):=B1
 clear C1 C2 hb1 X1 HAT c6 c6' B1
 have hq1:(q:Int)<2000:=by omega
 go_wp2_with fail
 go_region
 generalize hW:((w1.setCell ⟨bC,9,none⟩ (.int .i64 (q+1))).alloc (.cells #[.int .i64 op,.int .i64 d,.int .i64 a,.int .i64 b',.int .i64 imm,.int .i64 h] 30)).drew=W
 have XI:Below w1.heap.size (w1.setCell ⟨bC,9,none⟩ (.int .i64 (q+1))) ((w1.setCell ⟨bC,9,none⟩ (.int .i64 (q+1))).alloc (.cells #[.int .i64 op,.int .i64 d,.int .i64 a,.int .i64 b',.int .i64 imm,.int .i64 h] 30)).drew:=((Below.refl _ _).alloc (by simp) _).drew
 have CW:Core W base bC p (M.pc+1) tab M:=by rw[<-hW,hq];exact(H2.out.next (q+1)).below (by simpa using XI)
 have BW:Below base w W:=by rw[<-hW];exact(HB1.out.setCell (by simpa using H2.out.lt.1) _).trans (XI.mono H2.out.size)
 have zI:w1.heap.size<W.heap.size:=by rw[<-hW];simp
 have yV:w.heap.size<W.heap.size:=by omega
 have yC:bC<W.heap.size:=CW.lt.2
 have kV:W.cell? ⟨w.heap.size,0,none⟩=some (.pointer (some ⟨bC,0,none⟩)):=by rw[<-hW];simp[go_sem,cV,zV]
 have kCV:Cell1 W w.heap.size (.pointer (some ⟨bC,0,none⟩)) 84:=by
  have k1:=H2.out.keepC 9 (.int .i64 (q+1)) _ _ _ (by unfold tyOK;decide) kV1
  rw[<-hW]
  exact k1.below (by simpa using XI)
 have kI:∀k,k<6->W.cell? ⟨w1.heap.size,k,none⟩=(#[.int .i64 op,.int .i64 d,.int .i64 a,.int .i64 b',.int .i64 imm,.int .i64 h]:Array Value)[k]?:=by
  intro k _
  rw[<-hW]
  have:=cell_of_row ((w1.setCell ⟨bC,9,none⟩ (.int .i64 (q+1))).alloc (.cells #[.int .i64 op,.int .i64 d,.int .i64 a,.int .i64 b',.int .i64 imm,.int .i64 h] 30)) w1.heap.size k _ _ (0,0) (by have:=heap_alloc_new (w1.setCell ⟨bC,9,none⟩ (.int .i64 (q+1))) (.cells #[.int .i64 op,.int .i64 d,.int .i64 a,.int .i64 b',.int .i64 imm,.int .i64 h] 30);simpa using this)
  exact this
 have kT:W.cell? ⟨bC,10+op,none⟩=some v:=by
  rw[CW.core.cellAt (10+op) (by omega)]
  simpa[coreL,Nat.add_comm 10 op]using hv
 have rV:∀w',Below W.heap.size W w'->w'.cell? ⟨w.heap.size,0,none⟩=some (.pointer (some ⟨bC,0,none⟩)):=fun w' h=>(h.cell (p:=⟨w.heap.size,0,none⟩) yV).trans kV
 have rT:∀w',Below W.heap.size W w'->w'.cell? ⟨bC,10+op,none⟩=some (.func (.func f) #[] caps):=fun w' h=>(h.cell (p:=⟨bC,10+op,none⟩) yC).trans (kT.trans (by rw[hvf]))
 have r0:∀w',Below W.heap.size W w'->w'.cell? ⟨w1.heap.size,0,none⟩=some (.int .i64 op):=fun w' h=>(h.cell (p:=⟨w1.heap.size,0,none⟩) zI).trans (kI 0 (by omega))
 have r1:∀w',Below W.heap.size W w'->w'.cell? ⟨w1.heap.size,1,none⟩=some (.int .i64 d):=fun w' h=>(h.cell (p:=⟨w1.heap.size,1,none⟩) zI).trans (kI 1 (by omega))
 have r2:∀w',Below W.heap.size W w'->w'.cell? ⟨w1.heap.size,2,none⟩=some (.int .i64 a):=fun w' h=>(h.cell (p:=⟨w1.heap.size,2,none⟩) zI).trans (kI 2 (by omega))
 have r3:∀w',Below W.heap.size W w'->w'.cell? ⟨w1.heap.size,3,none⟩=some (.int .i64 b'):=fun w' h=>(h.cell (p:=⟨w1.heap.size,3,none⟩) zI).trans (kI 3 (by omega))
 have r4:∀w',Below W.heap.size W w'->w'.cell? ⟨w1.heap.size,4,none⟩=some (.int .i64 imm):=fun w' h=>(h.cell (p:=⟨w1.heap.size,4,none⟩) zI).trans (kI 4 (by omega))
 have r5:∀w',Below W.heap.size W w'->w'.cell? ⟨w1.heap.size,5,none⟩=some (.int .i64 h):=fun w' h=>(h.cell (p:=⟨w1.heap.size,5,none⟩) zI).trans (kI 5 (by omega))
 have HCW:Hid (Core W base bC p (M.pc+1) tab M):=CW
 have HBW:Hid (Below base w W):=BW
 have HCV:Hid (Cell1 W w.heap.size (.pointer (some ⟨bC,0,none⟩)) 84):=kCV
 clear hW XI CW BW cV e6 e9 ff H2 HB1 kI kT kV hv hvf kCV kV1
 have hres:Tryz.f41.results=#[]:=by kernel_rfl
 have HRES:Hid (Tryz.f41.results=#[]):=hres
 clear hres
 go_wp2_with fail
 refine wp_region_L (T:=fun w'=>Below W.heap.size W w') (s:=9) (by kernel_rfl) ((Below.refl _ _).drew) (fun hHeld=>?_)
 refine wpAnyL_takeT (i:=0) (v:=?v0) rfl (by kernel_rfl) (by kernel_rfl) (by kernel_rfl) (by kernel_rfl) (fun _ _ _ h=>pan_put HRES.out h) (Or.inl ⟨by kernel_rfl,?y0⟩) (by assumption) ?r0
 case y0=>(intro w hSw;(try dsimp only at hSw);go_simp;try with_reducible rfl)
 try go_frame
 refine wpAnyL_takeT (i:=1) (v:=?v1) rfl (by kernel_rfl) (by kernel_rfl) (by kernel_rfl) (by kernel_rfl) (fun _ _ _ h=>pan_put HRES.out h) (Or.inl ⟨by kernel_rfl,?y1⟩) (by assumption) ?r1
 case y1=>(intro w hSw;(try dsimp only at hSw);go_simp;try with_reducible rfl)
 try go_frame
 refine wpAnyL_takeT (i:=2) (v:=?v2) rfl (by kernel_rfl) (by kernel_rfl) (by kernel_rfl) (by kernel_rfl) (fun _ _ _ h=>pan_put HRES.out h) (Or.inl ⟨by kernel_rfl,?y2⟩) (by assumption) ?r2
 case y2=>(intro w hSw;(try dsimp only at hSw);go_simp;try with_reducible rfl)
 try go_frame
 refine wpAnyL_takeT (i:=3) (v:=?v3) rfl (by kernel_rfl) (by kernel_rfl) (by kernel_rfl) (by kernel_rfl) (fun _ _ _ h=>pan_put HRES.out h) (Or.inl ⟨by kernel_rfl,?y3⟩) (by assumption) ?r3
 case y3=>(intro w hSw;(try dsimp only at hSw);go_simp;try with_reducible rfl)
 try go_frame
 refine wpAnyL_takeT (i:=4) (v:=?v4) rfl (by kernel_rfl) (by kernel_rfl) (by kernel_rfl) (by kernel_rfl) (fun _ _ _ h=>pan_put HRES.out h) (Or.inl ⟨by kernel_rfl,?y4⟩) (by assumption) ?r4
 case y4=>(intro w hSw;(try dsimp only at hSw);go_simp;try with_reducible rfl)
 try go_frame
 refine wpAnyL_takeT (i:=5) (v:=?v5) rfl (by kernel_rfl) (by kernel_rfl) (by kernel_rfl) (by kernel_rfl) (fun _ _ _ h=>pan_put HRES.out h) (Or.inl ⟨by kernel_rfl,?y5⟩) (by assumption) ?r5
 case y5=>(intro w hSw;(try dsimp only at hSw);go_simp;try with_reducible rfl)
 try go_frame
 refine wpAnyL_takeT (i:=6) (v:=?v6) rfl (by kernel_rfl) (by kernel_rfl) (by kernel_rfl) (by kernel_rfl) (fun _ _ _ h=>pan_put HRES.out h) (Or.inl ⟨by kernel_rfl,?y6⟩) (by assumption) ?r6
 case y6=>(intro w hSw;(try dsimp only at hSw);go_simp;try with_reducible rfl)
 try go_frame
 refine wpAnyL_takeT (i:=7) (v:=?v7) rfl (by kernel_rfl) (by kernel_rfl) (by kernel_rfl) (by kernel_rfl) (fun _ _ _ h=>pan_put HRES.out h) (Or.inl ⟨by kernel_rfl,?y7⟩) (by assumption) ?r7
 case y7=>(intro w hSw;(try dsimp only at hSw);go_simp;try with_reducible rfl)
 try go_frame
 refine wpAnyL_takeT (i:=8) (v:=?v8) rfl (by kernel_rfl) (by kernel_rfl) (by kernel_rfl) (by kernel_rfl) (fun _ _ _ h=>pan_put HRES.out h) (Or.inl ⟨by kernel_rfl,?y8⟩) (by assumption) ?r8
 case y8=>(intro w hSw;(try dsimp only at hSw);go_simp;try with_reducible rfl)
 try go_frame
 refine wpAnyL_store rfl (by kernel_rfl) (by kernel_rfl) (fun K hK=>?_)
 go_simp
 refine(HCALL.out _ (HCW.out.below (Below.refl _ _).drew)).mono ?_
 rintro e w2⟨hB2,hK2,hR2⟩
 have k2:Cell1 w2 w.heap.size (.pointer (some ⟨bC,0,none⟩)) 84:=hK2 _ _ _ (by unfold tyOK;decide) (HCV.out.below (Below.refl _ _).drew)
 have B2:Below base w w2:=HBW.out.trans ((Below.refl _ _).drew.trans hB2)
 have HB2:Hid (Below base w w2):=B2
 clear hB2 hK2 B2 rV rT r0 r1 r2 r3 r4 r5 hHeld HCALL
 generalize hX:exec op d a b' h imm M (M.pc+1)=X at hR2
 have HX:Hid (exec op d a b' h imm M (M.pc+1)=X):=hX
 clear hX
 cases X with
 |inl q=>
  obtain⟨M',nx'⟩:=q
  obtain⟨rfl,p',C'⟩:=hR2
  go_wp2_with fail
  refine hK.out _ _ ?_
  clear hK K
  have z1:=k2.lt
  have q1:=k2.cell
  have q9:=C'.c9
  have q6:=C'.c6
  have qf:=C'.free 6
  have zC2:=C'.lt.2
  have HC:Hid (Core w2 base bC p' nx' tab M'):=C'
  clear C' k2
  go_wp2_with fail
  go_region
  refine leaves_cons (f:=78) (args:=#[.pointer (some ⟨w.heap.size,0,none⟩)]) (by simp) (by simp[go_sem]) ?_
  refine(catch_idle w.heap.size _).mono ?_
  rintro e u' w3⟨rfl,rfl,rfl⟩
  have C3:Core (w2.setCell ⟨bC,6,none⟩ (.int .i64 nx')).drew base bC p' nx' tab {M' with pc:=nx'}:=(HC.out.setPc nx').below (Below.refl _ _).drew
  have B3:Below base w (w2.setCell ⟨bC,6,none⟩ (.int .i64 nx')).drew:=(HB2.out.setCell (by simpa using HC.out.lt.1) _).drew
  have H3:Hid _:=C3
  have HB3:Hid _:=B3
  clear C3 B3 HC HB2
  simp[Leaves,settle,results,Tryz.results41,go_sem]
  exact⟨HB3.out,p',nx',by rw[HX.out];exact H3.out⟩
 |inr M'=>
  obtain⟨rfl,p',nx',C'⟩:=hR2
  refine leaves_cons (f:=78) (args:=#[.pointer (some ⟨w.heap.size,0,none⟩)]) (by simp) (by simp[go_sem]) ?_
  refine(catch_fault w.heap.size bC M'.st [] w2 k2.lt C'.lt.2 k2.cell C'.c7 (C'.free 7)).mono ?_
  rintro e u' w3⟨rfl,rfl,rfl⟩
  have C3:Core ((w2.setCell ⟨bC,7,none⟩ (.int .i64 2)).alloc (.cells #[] 124)) base bC p' nx' tab M'.fault:=(C'.setSt 2).below ((Below.refl _ _).alloc (Nat.le_refl _) _)
  have B3:Below base w ((w2.setCell ⟨bC,7,none⟩ (.int .i64 2)).alloc (.cells #[] 124)):=(HB2.out.setCell (by simpa using C'.lt.1) _).alloc (by simp;exact C'.size) _
  have H3:Hid _:=C3
  have HB3:Hid _:=B3
  clear C3 B3 C' HB2 k2
  simp[Leaves,settle,results,Tryz.results41,go_sem]
  exact⟨HB3.out,p',nx',by rw[HX.out];exact H3.out⟩
end
end Go.Proofs.YtbahofiiaodpdaaGreat
