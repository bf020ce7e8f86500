import Derived.Test.YtbahofiiaodpdaaGreatOfTransOpsC
set_option maxHeartbeats 8000000
set_option maxRecDepth 20000
namespace Go.Proofs.YtbahofiiaodpdaaGreat
open Go.RowKit
theorem operandsOf_TTz(V:Nat->VV)(z c:Int)(FA:Array Value)(hF:FA=facA V z c)(op d imm h:Int)(ia:Nat)(ha:ia<8)(ib:Nat)(hb:ib<8)(eA:(bits .and .i64 (fieldsI op) 2 !=0)=true)(eB:(bits .and .i64 (fieldsI op) 4 !=0)=true)(e1:(op==19)=true)(w:World):
 Calls Tryz.prog 64 #[.agg FA,.agg #[.int .i64 op,.int .i64 d,.int .i64 (ia:Int),.int .i64 (ib:Int),.int .i64 imm,.int .i64 h]] w fun e w'=>e=.returned (.agg (oL (V ia) (V ib) z ((V ia).s||(V ib).s||decide (z=2))).toArray)/\Below w.heap.size w w':=by
 have HF:Hid (FA=facA V z c):=hF;clear hF;go_enter Tryz.func64,Tryz.ntmps64;go_upto_region 2 with fail;obtain⟨u,hu,pu⟩:=oo_pre w V z c FA HF.out (op:=op) (d:=d) (ra:=(ia:Int)) (rb:=(ib:Int)) (imm:=imm) (h:=h);rw[hu];have P0:Hid (OoP w u V z c op d (ia:Int) (ib:Int) imm h zV zV 1 false):=pu;clear hu pu HF;obtain⟨i0,i1,i2,i3,i4,i5⟩:=ins_cells P0.out.I;obtain⟨o0,o1,o2,o3,o4,o5,o6,o7,o8,o9,o10,o11,o12,o13⟩:=P0.out.O.cells;have of:=P0.out.O.2.1;have ol:=P0.out.O.1;go_wp2_with fail;refine(fields_any op _).mono ?_;rintro e w'⟨rfl,hw⟩;rw[hw];clear hw;have f0:u.cell? ⟨w.heap.size,ia*6,none⟩=some (.int .i64 (V ia).k):=(P0.out.F.cell (i:=ia*6+0) (by omega)).trans (congrArg some (fF_val V z c ia 0 (by omega) (by omega)));have f1:u.cell? ⟨w.heap.size,ia*6+1,none⟩=some (.bool (V ia).s):=(P0.out.F.cell (i:=ia*6+1) (by omega)).trans (congrArg some (fF_val V z c ia 1 (by omega) (by omega)));have f2:u.cell? ⟨w.heap.size,ia*6+2,none⟩=some (.int .i64 (V ia).m):=(P0.out.F.cell (i:=ia*6+2) (by omega)).trans (congrArg some (fF_val V z c ia 2 (by omega) (by omega)));have f3:u.cell? ⟨w.heap.size,ia*6+3,none⟩=some (.int .i64 (V ia).h):=(P0.out.F.cell (i:=ia*6+3) (by omega)).trans (congrArg some (fF_val V z c ia 3 (by omega) (by omega)));have f4:u.cell? ⟨w.heap.size,ia*6+4,none⟩=some (.int .i64 (V ia).lo):=(P0.out.F.cell (i:=ia*6+4) (by omega)).trans (congrArg some (fF_val V z c ia 4 (by omega) (by omega)));have f5:u.cell? ⟨w.heap.size,ia*6+5,none⟩=some (.int .i64 (V ia).hi):=(P0.out.F.cell (i:=ia*6+5) (by omega)).trans (congrArg some (fF_val V z c ia 5 (by omega) (by omega)));go_upto_region 5 with fail;clear f0 f1 f2 f3 f4 f5;clear i0 i1 i2 i3 i4 i5 of ol o0 o1 o2 o3 o4 o5 o6 o7 o8 o9 o10 o11 o12 o13;change Code.wp _ _ _ _ (putV u (w.heap.size+1+1+1) (V ia));obtain⟨u1,hu,hbu,vo⟩:∃v,putV u (w.heap.size+1+1+1) (V ia)=v/\Below (w.heap.size+1+1+1) u v/\Ob v (w.heap.size+1+1+1) (V ia) zV 1 false:=⟨_,rfl,below_putV (Below.refl _ _) (Nat.le_refl _) _,P0.out.O.setA _⟩
 rw[hu];have P1:Hid (OoP w u1 V z c op d (ia:Int) (ib:Int) imm h (V ia) zV 1 false):=P0.out.upd hbu vo;clear hu hbu vo P0;obtain⟨i0,i1,i2,i3,i4,i5⟩:=ins_cells P1.out.I;obtain⟨o0,o1,o2,o3,o4,o5,o6,o7,o8,o9,o10,o11,o12,o13⟩:=P1.out.O.cells;have of:=P1.out.O.2.1;have ol:=P1.out.O.1;have f0:u1.cell? ⟨w.heap.size,ib*6,none⟩=some (.int .i64 (V ib).k):=(P1.out.F.cell (i:=ib*6+0) (by omega)).trans (congrArg some (fF_val V z c ib 0 (by omega) (by omega)));have f1:u1.cell? ⟨w.heap.size,ib*6+1,none⟩=some (.bool (V ib).s):=(P1.out.F.cell (i:=ib*6+1) (by omega)).trans (congrArg some (fF_val V z c ib 1 (by omega) (by omega)));have f2:u1.cell? ⟨w.heap.size,ib*6+2,none⟩=some (.int .i64 (V ib).m):=(P1.out.F.cell (i:=ib*6+2) (by omega)).trans (congrArg some (fF_val V z c ib 2 (by omega) (by omega)));have f3:u1.cell? ⟨w.heap.size,ib*6+3,none⟩=some (.int .i64 (V ib).h):=(P1.out.F.cell (i:=ib*6+3) (by omega)).trans (congrArg some (fF_val V z c ib 3 (by omega) (by omega)));have f4:u1.cell? ⟨w.heap.size,ib*6+4,none⟩=some (.int .i64 (V ib).lo):=(P1.out.F.cell (i:=ib*6+4) (by omega)).trans (congrArg some (fF_val V z c ib 4 (by omega) (by omega)));have f5:u1.cell? ⟨w.heap.size,ib*6+5,none⟩=some (.int .i64 (V ib).hi):=(P1.out.F.cell (i:=ib*6+5) (by omega)).trans (congrArg some (fF_val V z c ib 5 (by omega) (by omega)));go_upto_region 7 with fail;clear f0 f1 f2 f3 f4 f5;clear i0 i1 i2 i3 i4 i5 of ol o0 o1 o2 o3 o4 o5 o6 o7 o8 o9 o10 o11 o12 o13;change Code.wp _ _ _ _ (putB u1 (w.heap.size+1+1+1) (V ib));obtain⟨u2,hu,hbu,vo⟩:∃v,putB u1 (w.heap.size+1+1+1) (V ib)=v/\Below (w.heap.size+1+1+1) u1 v/\Ob v (w.heap.size+1+1+1) (V ia) (V ib) 1 false:=⟨_,rfl,below_putB (Below.refl _ _) (Nat.le_refl _) _,P1.out.O.setB _⟩
 rw[hu]
 have P2:Hid (OoP w u2 V z c op d (ia:Int) (ib:Int) imm h (V ia) (V ib) 1 false):=P1.out.upd hbu vo
 clear hu hbu vo P1
 obtain⟨i0,i1,i2,i3,i4,i5⟩:=ins_cells P2.out.I
 obtain⟨o0,o1,o2,o3,o4,o5,o6,o7,o8,o9,o10,o11,o12,o13⟩:=P2.out.O.cells
 have of:=P2.out.O.2.1
 have ol:=P2.out.O.1
 have f0:u2.cell? ⟨w.heap.size,48,none⟩=some (.int .i64 z):=P2.out.F.cell (i:=48) (by omega)
 go_upto_region 13 with fail
 clear f0
 clear i0 i1 i2 i3 i4 i5 of ol o0 o1 o2 o3 o4 o5 o6 o7 o8 o9 o10 o11 o12 o13
 obtain⟨u3,hu,hbu,vo⟩:∃v,u2.setCell ⟨w.heap.size+1+1+1,12,none⟩ (.int .i64 z)=v/\Below (w.heap.size+1+1+1) u2 v/\Ob v (w.heap.size+1+1+1) (V ia) (V ib) z false:=⟨_,rfl,(Below.refl _ _).setCell (p:=⟨w.heap.size+1+1+1,12,none⟩) (Nat.le_refl _) _,P2.out.O.setF _⟩
 rw[hu]
 have P3:Hid (OoP w u3 V z c op d (ia:Int) (ib:Int) imm h (V ia) (V ib) z false):=P2.out.upd hbu vo
 clear hu hbu vo P2
 obtain⟨i0,i1,i2,i3,i4,i5⟩:=ins_cells P3.out.I
 obtain⟨o0,o1,o2,o3,o4,o5,o6,o7,o8,o9,o10,o11,o12,o13⟩:=P3.out.O.cells
 have of:=P3.out.O.2.1
 have ol:=P3.out.O.1
 obtain⟨r0,r1,r2,r3,r4,r5,r6,r7,r8,r9,r10,r11,r12,r13⟩:=P3.out.R.cells
 have rf:=P3.out.R.2.1
 have rl:=P3.out.R.1
 try dsimp only[zV]at r0
 try dsimp only[zV]at r1
 try dsimp only[zV]at r2
 try dsimp only[zV]at r3
 try dsimp only[zV]at r4
 try dsimp only[zV]at r5
 try dsimp only[zV]at r6
 try dsimp only[zV]at r7
 try dsimp only[zV]at r8
 try dsimp only[zV]at r9
 try dsimp only[zV]at r10
 try dsimp only[zV]at r11
 try dsimp only[zV]at r12
 try dsimp only[zV]at r13
 cases hsa:(V ia).s with
 |true=>
  rw[hsa]at o1
  go_wp2
  exact bodyPost_ret (v:=.agg (oL (V ia) (V ib) z true).toArray) (by simp[results,Tryz.results64,go_sem,oL, *]) rfl ⟨congrArg (fun q=>Ending.returned (.agg (oL (V ia) (V ib) z q).toArray)) (by simp[*]),by(iterate 14 refine Below.setCell ?_ (show w.heap.size<=w.heap.size+1+1 by omega) _);refine Below.setCell ?_ (show w.heap.size<=w.heap.size+1+1+1 by omega) _;exact P3.out.bel⟩
 |false=>
  rw[hsa]at o1
  cases hsb:(V ib).s with
  |true=>
   rw[hsb]at o7
   go_wp2
   exact bodyPost_ret (v:=.agg (oL (V ia) (V ib) z true).toArray) (by simp[results,Tryz.results64,go_sem,oL, *]) rfl ⟨congrArg (fun q=>Ending.returned (.agg (oL (V ia) (V ib) z q).toArray)) (by simp[*]),by(iterate 14 refine Below.setCell ?_ (show w.heap.size<=w.heap.size+1+1 by omega) _);refine Below.setCell ?_ (show w.heap.size<=w.heap.size+1+1+1 by omega) _;exact P3.out.bel⟩
  |false=>
   rw[hsb]at o7
   by_cases ez:z=2
   ·have ez2:(z==2)=true:=by simp[ez]
    have ez3:decide (z=2)=true:=by simp[ez]
    clear ez
    go_wp2
    exact bodyPost_ret (v:=.agg (oL (V ia) (V ib) z true).toArray) (by simp[results,Tryz.results64,go_sem,oL, *]) rfl ⟨congrArg (fun q=>Ending.returned (.agg (oL (V ia) (V ib) z q).toArray)) (by simp[*]),by(iterate 14 refine Below.setCell ?_ (show w.heap.size<=w.heap.size+1+1 by omega) _);refine Below.setCell ?_ (show w.heap.size<=w.heap.size+1+1+1 by omega) _;exact P3.out.bel⟩
   ·have ez2:(z==2)=false:=by simp[ez]
    have ez3:decide (z=2)=false:=by simp[ez]
    clear ez
    go_wp2
    exact bodyPost_ret (v:=.agg (oL (V ia) (V ib) z false).toArray) (by simp[results,Tryz.results64,go_sem,oL, *]) rfl ⟨congrArg (fun q=>Ending.returned (.agg (oL (V ia) (V ib) z q).toArray)) (by simp[*]),by(iterate 14 refine Below.setCell ?_ (show w.heap.size<=w.heap.size+1+1 by omega) _);refine Below.setCell ?_ (show w.heap.size<=w.heap.size+1+1+1 by omega) _;exact P3.out.bel⟩
theorem operandsOf_TTc(V:Nat->VV)(z c:Int)(FA:Array Value)(hF:FA=facA V z c)(op d imm h:Int)(ia:Nat)(ha:ia<8)(ib:Nat)(hb:ib<8)(eA:(bits .and .i64 (fieldsI op) 2 !=0)=true)(eB:(bits .and .i64 (fieldsI op) 4 !=0)=true)(e1:(op==19)=false)(e2:(op==15)=true)(w:World):
 Calls Tryz.prog 64 #[.agg FA,.agg #[.int .i64 op,.int .i64 d,.int .i64 (ia:Int),.int .i64 (ib:Int),.int .i64 imm,.int .i64 h]] w fun e w'=>e=.returned (.agg (oL (V ia) (V ib) c ((V ia).s||(V ib).s||decide (c=2))).toArray)/\Below w.heap.size w w':=by
 have HF:Hid (FA=facA V z c):=hF;clear hF;go_enter Tryz.func64,Tryz.ntmps64;go_upto_region 2 with fail;obtain⟨u,hu,pu⟩:=oo_pre w V z c FA HF.out (op:=op) (d:=d) (ra:=(ia:Int)) (rb:=(ib:Int)) (imm:=imm) (h:=h);rw[hu];have P0:Hid (OoP w u V z c op d (ia:Int) (ib:Int) imm h zV zV 1 false):=pu;clear hu pu HF;obtain⟨i0,i1,i2,i3,i4,i5⟩:=ins_cells P0.out.I;obtain⟨o0,o1,o2,o3,o4,o5,o6,o7,o8,o9,o10,o11,o12,o13⟩:=P0.out.O.cells;have of:=P0.out.O.2.1;have ol:=P0.out.O.1;go_wp2_with fail;refine(fields_any op _).mono ?_;rintro e w'⟨rfl,hw⟩;rw[hw];clear hw;have f0:u.cell? ⟨w.heap.size,ia*6,none⟩=some (.int .i64 (V ia).k):=(P0.out.F.cell (i:=ia*6+0) (by omega)).trans (congrArg some (fF_val V z c ia 0 (by omega) (by omega)));have f1:u.cell? ⟨w.heap.size,ia*6+1,none⟩=some (.bool (V ia).s):=(P0.out.F.cell (i:=ia*6+1) (by omega)).trans (congrArg some (fF_val V z c ia 1 (by omega) (by omega)));have f2:u.cell? ⟨w.heap.size,ia*6+2,none⟩=some (.int .i64 (V ia).m):=(P0.out.F.cell (i:=ia*6+2) (by omega)).trans (congrArg some (fF_val V z c ia 2 (by omega) (by omega)));have f3:u.cell? ⟨w.heap.size,ia*6+3,none⟩=some (.int .i64 (V ia).h):=(P0.out.F.cell (i:=ia*6+3) (by omega)).trans (congrArg some (fF_val V z c ia 3 (by omega) (by omega)));have f4:u.cell? ⟨w.heap.size,ia*6+4,none⟩=some (.int .i64 (V ia).lo):=(P0.out.F.cell (i:=ia*6+4) (by omega)).trans (congrArg some (fF_val V z c ia 4 (by omega) (by omega)));have f5:u.cell? ⟨w.heap.size,ia*6+5,none⟩=some (.int .i64 (V ia).hi):=(P0.out.F.cell (i:=ia*6+5) (by omega)).trans (congrArg some (fF_val V z c ia 5 (by omega) (by omega)));go_upto_region 5 with fail;clear f0 f1 f2 f3 f4 f5;clear i0 i1 i2 i3 i4 i5 of ol o0 o1 o2 o3 o4 o5 o6 o7 o8 o9 o10 o11 o12 o13;change Code.wp _ _ _ _ (putV u (w.heap.size+1+1+1) (V ia));obtain⟨u1,hu,hbu,vo⟩:∃v,putV u (w.heap.size+1+1+1) (V ia)=v/\Below (w.heap.size+1+1+1) u v/\Ob v (w.heap.size+1+1+1) (V ia) zV 1 false:=⟨_,rfl,below_putV (Below.refl _ _) (Nat.le_refl _) _,P0.out.O.setA _⟩
 rw[hu];have P1:Hid (OoP w u1 V z c op d (ia:Int) (ib:Int) imm h (V ia) zV 1 false):=P0.out.upd hbu vo;clear hu hbu vo P0;obtain⟨i0,i1,i2,i3,i4,i5⟩:=ins_cells P1.out.I;obtain⟨o0,o1,o2,o3,o4,o5,o6,o7,o8,o9,o10,o11,o12,o13⟩:=P1.out.O.cells;have of:=P1.out.O.2.1;have ol:=P1.out.O.1;have f0:u1.cell? ⟨w.heap.size,ib*6,none⟩=some (.int .i64 (V ib).k):=(P1.out.F.cell (i:=ib*6+0) (by omega)).trans (congrArg some (fF_val V z c ib 0 (by omega) (by omega)));have f1:u1.cell? ⟨w.heap.size,ib*6+1,none⟩=some (.bool (V ib).s):=(P1.out.F.cell (i:=ib*6+1) (by omega)).trans (congrArg some (fF_val V z c ib 1 (by omega) (by omega)));have f2:u1.cell? ⟨w.heap.size,ib*6+2,none⟩=some (.int .i64 (V ib).m):=(P1.out.F.cell (i:=ib*6+2) (by omega)).trans (congrArg some (fF_val V z c ib 2 (by omega) (by omega)));have f3:u1.cell? ⟨w.heap.size,ib*6+3,none⟩=some (.int .i64 (V ib).h):=(P1.out.F.cell (i:=ib*6+3) (by omega)).trans (congrArg some (fF_val V z c ib 3 (by omega) (by omega)));have f4:u1.cell? ⟨w.heap.size,ib*6+4,none⟩=some (.int .i64 (V ib).lo):=(P1.out.F.cell (i:=ib*6+4) (by omega)).trans (congrArg some (fF_val V z c ib 4 (by omega) (by omega)));have f5:u1.cell? ⟨w.heap.size,ib*6+5,none⟩=some (.int .i64 (V ib).hi):=(P1.out.F.cell (i:=ib*6+5) (by omega)).trans (congrArg some (fF_val V z c ib 5 (by omega) (by omega)));go_upto_region 7 with fail;clear f0 f1 f2 f3 f4 f5;clear i0 i1 i2 i3 i4 i5 of ol o0 o1 o2 o3 o4 o5 o6 o7 o8 o9 o10 o11 o12 o13;change Code.wp _ _ _ _ (putB u1 (w.heap.size+1+1+1) (V ib));obtain⟨u2,hu,hbu,vo⟩:∃v,putB u1 (w.heap.size+1+1+1) (V ib)=v/\Below (w.heap.size+1+1+1) u1 v/\Ob v (w.heap.size+1+1+1) (V ia) (V ib) 1 false:=⟨_,rfl,below_putB (Below.refl _ _) (Nat.le_refl _) _,P1.out.O.setB _⟩
 rw[hu]
 have P2:Hid (OoP w u2 V z c op d (ia:Int) (ib:Int) imm h (V ia) (V ib) 1 false):=P1.out.upd hbu vo
 clear hu hbu vo P1
 obtain⟨i0,i1,i2,i3,i4,i5⟩:=ins_cells P2.out.I
 obtain⟨o0,o1,o2,o3,o4,o5,o6,o7,o8,o9,o10,o11,o12,o13⟩:=P2.out.O.cells
 have of:=P2.out.O.2.1
 have ol:=P2.out.O.1
 have f0:u2.cell? ⟨w.heap.size,49,none⟩=some (.int .i64 c):=P2.out.F.cell (i:=49) (by omega)
 go_upto_region 13 with fail
 clear f0
 clear i0 i1 i2 i3 i4 i5 of ol o0 o1 o2 o3 o4 o5 o6 o7 o8 o9 o10 o11 o12 o13
 obtain⟨u3,hu,hbu,vo⟩:∃v,u2.setCell ⟨w.heap.size+1+1+1,12,none⟩ (.int .i64 c)=v/\Below (w.heap.size+1+1+1) u2 v/\Ob v (w.heap.size+1+1+1) (V ia) (V ib) c false:=⟨_,rfl,(Below.refl _ _).setCell (p:=⟨w.heap.size+1+1+1,12,none⟩) (Nat.le_refl _) _,P2.out.O.setF _⟩
 rw[hu]
 have P3:Hid (OoP w u3 V z c op d (ia:Int) (ib:Int) imm h (V ia) (V ib) c false):=P2.out.upd hbu vo
 clear hu hbu vo P2
 obtain⟨i0,i1,i2,i3,i4,i5⟩:=ins_cells P3.out.I
 obtain⟨o0,o1,o2,o3,o4,o5,o6,o7,o8,o9,o10,o11,o12,o13⟩:=P3.out.O.cells
 have of:=P3.out.O.2.1
 have ol:=P3.out.O.1
 obtain⟨r0,r1,r2,r3,r4,r5,r6,r7,r8,r9,r10,r11,r12,r13⟩:=P3.out.R.cells
 have rf:=P3.out.R.2.1
 have rl:=P3.out.R.1
 try dsimp only[zV]at r0
 try dsimp only[zV]at r1
 try dsimp only[zV]at r2
 try dsimp only[zV]at r3
 try dsimp only[zV]at r4
 try dsimp only[zV]at r5
 try dsimp only[zV]at r6
 try dsimp only[zV]at r7
 try dsimp only[zV]at r8
 try dsimp only[zV]at r9
 try dsimp only[zV]at r10
 try dsimp only[zV]at r11
 try dsimp only[zV]at r12
 try dsimp only[zV]at r13
 cases hsa:(V ia).s with
 |true=>
  rw[hsa]at o1
  go_wp2
  exact bodyPost_ret (v:=.agg (oL (V ia) (V ib) c true).toArray) (by simp[results,Tryz.results64,go_sem,oL, *]) rfl ⟨congrArg (fun q=>Ending.returned (.agg (oL (V ia) (V ib) c q).toArray)) (by simp[*]),by(iterate 14 refine Below.setCell ?_ (show w.heap.size<=w.heap.size+1+1 by omega) _);refine Below.setCell ?_ (show w.heap.size<=w.heap.size+1+1+1 by omega) _;exact P3.out.bel⟩
 |false=>
  rw[hsa]at o1
  cases hsb:(V ib).s with
  |true=>
   rw[hsb]at o7
   go_wp2
   exact bodyPost_ret (v:=.agg (oL (V ia) (V ib) c true).toArray) (by simp[results,Tryz.results64,go_sem,oL, *]) rfl ⟨congrArg (fun q=>Ending.returned (.agg (oL (V ia) (V ib) c q).toArray)) (by simp[*]),by(iterate 14 refine Below.setCell ?_ (show w.heap.size<=w.heap.size+1+1 by omega) _);refine Below.setCell ?_ (show w.heap.size<=w.heap.size+1+1+1 by omega) _;exact P3.out.bel⟩
  |false=>
   rw[hsb]at o7
   by_cases ez:c=2
   ·have ez2:(c==2)=true:=by simp[ez]
    have ez3:decide (c=2)=true:=by simp[ez]
    clear ez
    go_wp2
    exact bodyPost_ret (v:=.agg (oL (V ia) (V ib) c true).toArray) (by simp[results,Tryz.results64,go_sem,oL, *]) rfl ⟨congrArg (fun q=>Ending.returned (.agg (oL (V ia) (V ib) c q).toArray)) (by simp[*]),by(iterate 14 refine Below.setCell ?_ (show w.heap.size<=w.heap.size+1+1 by omega) _);refine Below.setCell ?_ (show w.heap.size<=w.heap.size+1+1+1 by omega) _;exact P3.out.bel⟩
   ·have ez2:(c==2)=false:=by simp[ez]
    have ez3:decide (c=2)=false:=by simp[ez]
    clear ez
    go_wp2
    exact bodyPost_ret (v:=.agg (oL (V ia) (V ib) c false).toArray) (by simp[results,Tryz.results64,go_sem,oL, *]) rfl ⟨congrArg (fun q=>Ending.returned (.agg (oL (V ia) (V ib) c q).toArray)) (by simp[*]),by(iterate 14 refine Below.setCell ?_ (show w.heap.size<=w.heap.size+1+1 by omega) _);refine Below.setCell ?_ (show w.heap.size<=w.heap.size+1+1+1 by omega) _;exact P3.out.bel⟩
theorem operandsOf_TTd(V:Nat->VV)(z c:Int)(FA:Array Value)(hF:FA=facA V z c)(op d imm h:Int)(ia:Nat)(ha:ia<8)(ib:Nat)(hb:ib<8)(eA:(bits .and .i64 (fieldsI op) 2 !=0)=true)(eB:(bits .and .i64 (fieldsI op) 4 !=0)=true)(e1:(op==19)=false)(e2:(op==15)=false)(e3:(op==20)=true)(w:World):
 Calls Tryz.prog 64 #[.agg FA,.agg #[.int .i64 op,.int .i64 d,.int .i64 (ia:Int),.int .i64 (ib:Int),.int .i64 imm,.int .i64 h]] w fun e w'=>e=.returned (.agg (oL (V ia) (V ib) c ((V ia).s||(V ib).s||decide (c=2))).toArray)/\Below w.heap.size w w':=by
 have HF:Hid (FA=facA V z c):=hF;clear hF;go_enter Tryz.func64,Tryz.ntmps64;go_upto_region 2 with fail;obtain⟨u,hu,pu⟩:=oo_pre w V z c FA HF.out (op:=op) (d:=d) (ra:=(ia:Int)) (rb:=(ib:Int)) (imm:=imm) (h:=h);rw[hu];have P0:Hid (OoP w u V z c op d (ia:Int) (ib:Int) imm h zV zV 1 false):=pu;clear hu pu HF;obtain⟨i0,i1,i2,i3,i4,i5⟩:=ins_cells P0.out.I;obtain⟨o0,o1,o2,o3,o4,o5,o6,o7,o8,o9,o10,o11,o12,o13⟩:=P0.out.O.cells;have of:=P0.out.O.2.1;have ol:=P0.out.O.1;go_wp2_with fail;refine(fields_any op _).mono ?_;rintro e w'⟨rfl,hw⟩;rw[hw];clear hw;have f0:u.cell? ⟨w.heap.size,ia*6,none⟩=some (.int .i64 (V ia).k):=(P0.out.F.cell (i:=ia*6+0) (by omega)).trans (congrArg some (fF_val V z c ia 0 (by omega) (by omega)));have f1:u.cell? ⟨w.heap.size,ia*6+1,none⟩=some (.bool (V ia).s):=(P0.out.F.cell (i:=ia*6+1) (by omega)).trans (congrArg some (fF_val V z c ia 1 (by omega) (by omega)));have f2:u.cell? ⟨w.heap.size,ia*6+2,none⟩=some (.int .i64 (V ia).m):=(P0.out.F.cell (i:=ia*6+2) (by omega)).trans (congrArg some (fF_val V z c ia 2 (by omega) (by omega)));have f3:u.cell? ⟨w.heap.size,ia*6+3,none⟩=some (.int .i64 (V ia).h):=(P0.out.F.cell (i:=ia*6+3) (by omega)).trans (congrArg some (fF_val V z c ia 3 (by omega) (by omega)));have f4:u.cell? ⟨w.heap.size,ia*6+4,none⟩=some (.int .i64 (V ia).lo):=(P0.out.F.cell (i:=ia*6+4) (by omega)).trans (congrArg some (fF_val V z c ia 4 (by omega) (by omega)));have f5:u.cell? ⟨w.heap.size,ia*6+5,none⟩=some (.int .i64 (V ia).hi):=(P0.out.F.cell (i:=ia*6+5) (by omega)).trans (congrArg some (fF_val V z c ia 5 (by omega) (by omega)));go_upto_region 5 with fail;clear f0 f1 f2 f3 f4 f5;clear i0 i1 i2 i3 i4 i5 of ol o0 o1 o2 o3 o4 o5 o6 o7 o8 o9 o10 o11 o12 o13;change Code.wp _ _ _ _ (putV u (w.heap.size+1+1+1) (V ia));obtain⟨u1,hu,hbu,vo⟩:∃v,putV u (w.heap.size+1+1+1) (V ia)=v/\Below (w.heap.size+1+1+1) u v/\Ob v (w.heap.size+1+1+1) (V ia) zV 1 false:=⟨_,rfl,below_putV (Below.refl _ _) (Nat.le_refl _) _,P0.out.O.setA _⟩
 rw[hu];have P1:Hid (OoP w u1 V z c op d (ia:Int) (ib:Int) imm h (V ia) zV 1 false):=P0.out.upd hbu vo;clear hu hbu vo P0;obtain⟨i0,i1,i2,i3,i4,i5⟩:=ins_cells P1.out.I;obtain⟨o0,o1,o2,o3,o4,o5,o6,o7,o8,o9,o10,o11,o12,o13⟩:=P1.out.O.cells;have of:=P1.out.O.2.1;have ol:=P1.out.O.1;have f0:u1.cell? ⟨w.heap.size,ib*6,none⟩=some (.int .i64 (V ib).k):=(P1.out.F.cell (i:=ib*6+0) (by omega)).trans (congrArg some (fF_val V z c ib 0 (by omega) (by omega)));have f1:u1.cell? ⟨w.heap.size,ib*6+1,none⟩=some (.bool (V ib).s):=(P1.out.F.cell (i:=ib*6+1) (by omega)).trans (congrArg some (fF_val V z c ib 1 (by omega) (by omega)));have f2:u1.cell? ⟨w.heap.size,ib*6+2,none⟩=some (.int .i64 (V ib).m):=(P1.out.F.cell (i:=ib*6+2) (by omega)).trans (congrArg some (fF_val V z c ib 2 (by omega) (by omega)));have f3:u1.cell? ⟨w.heap.size,ib*6+3,none⟩=some (.int .i64 (V ib).h):=(P1.out.F.cell (i:=ib*6+3) (by omega)).trans (congrArg some (fF_val V z c ib 3 (by omega) (by omega)));have f4:u1.cell? ⟨w.heap.size,ib*6+4,none⟩=some (.int .i64 (V ib).lo):=(P1.out.F.cell (i:=ib*6+4) (by omega)).trans (congrArg some (fF_val V z c ib 4 (by omega) (by omega)));have f5:u1.cell? ⟨w.heap.size,ib*6+5,none⟩=some (.int .i64 (V ib).hi):=(P1.out.F.cell (i:=ib*6+5) (by omega)).trans (congrArg some (fF_val V z c ib 5 (by omega) (by omega)));go_upto_region 7 with fail;clear f0 f1 f2 f3 f4 f5;clear i0 i1 i2 i3 i4 i5 of ol o0 o1 o2 o3 o4 o5 o6 o7 o8 o9 o10 o11 o12 o13;change Code.wp _ _ _ _ (putB u1 (w.heap.size+1+1+1) (V ib));obtain⟨u2,hu,hbu,vo⟩:∃v,putB u1 (w.heap.size+1+1+1) (V ib)=v/\Below (w.heap.size+1+1+1) u1 v/\Ob v (w.heap.size+1+1+1) (V ia) (V ib) 1 false:=⟨_,rfl,below_putB (Below.refl _ _) (Nat.le_refl _) _,P1.out.O.setB _⟩
 rw[hu]
 have P2:Hid (OoP w u2 V z c op d (ia:Int) (ib:Int) imm h (V ia) (V ib) 1 false):=P1.out.upd hbu vo
 clear hu hbu vo P1
 obtain⟨i0,i1,i2,i3,i4,i5⟩:=ins_cells P2.out.I
 obtain⟨o0,o1,o2,o3,o4,o5,o6,o7,o8,o9,o10,o11,o12,o13⟩:=P2.out.O.cells
 have of:=P2.out.O.2.1
 have ol:=P2.out.O.1
 have f0:u2.cell? ⟨w.heap.size,49,none⟩=some (.int .i64 c):=P2.out.F.cell (i:=49) (by omega)
 go_upto_region 13 with fail
 clear f0
 clear i0 i1 i2 i3 i4 i5 of ol o0 o1 o2 o3 o4 o5 o6 o7 o8 o9 o10 o11 o12 o13
 obtain⟨u3,hu,hbu,vo⟩:∃v,u2.setCell ⟨w.heap.size+1+1+1,12,none⟩ (.int .i64 c)=v/\Below (w.heap.size+1+1+1) u2 v/\Ob v (w.heap.size+1+1+1) (V ia) (V ib) c false:=⟨_,rfl,(Below.refl _ _).setCell (p:=⟨w.heap.size+1+1+1,12,none⟩) (Nat.le_refl _) _,P2.out.O.setF _⟩
 rw[hu]
 have P3:Hid (OoP w u3 V z c op d (ia:Int) (ib:Int) imm h (V ia) (V ib) c false):=P2.out.upd hbu vo
 clear hu hbu vo P2
 obtain⟨i0,i1,i2,i3,i4,i5⟩:=ins_cells P3.out.I
 obtain⟨o0,o1,o2,o3,o4,o5,o6,o7,o8,o9,o10,o11,o12,o13⟩:=P3.out.O.cells
 have of:=P3.out.O.2.1
 have ol:=P3.out.O.1
 obtain⟨r0,r1,r2,r3,r4,r5,r6,r7,r8,r9,r10,r11,r12,r13⟩:=P3.out.R.cells
 have rf:=P3.out.R.2.1
 have rl:=P3.out.R.1
 try dsimp only[zV]at r0
 try dsimp only[zV]at r1
 try dsimp only[zV]at r2
 try dsimp only[zV]at r3
 try dsimp only[zV]at r4
 try dsimp only[zV]at r5
 try dsimp only[zV]at r6
 try dsimp only[zV]at r7
 try dsimp only[zV]at r8
 try dsimp only[zV]at r9
 try dsimp only[zV]at r10
 try dsimp only[zV]at r11
 try dsimp only[zV]at r12
 try dsimp only[zV]at r13
 cases hsa:(V ia).s with
 |true=>
  rw[hsa]at o1
  go_wp2
  exact bodyPost_ret (v:=.agg (oL (V ia) (V ib) c true).toArray) (by simp[results,Tryz.results64,go_sem,oL, *]) rfl ⟨congrArg (fun q=>Ending.returned (.agg (oL (V ia) (V ib) c q).toArray)) (by simp[*]),by(iterate 14 refine Below.setCell ?_ (show w.heap.size<=w.heap.size+1+1 by omega) _);refine Below.setCell ?_ (show w.heap.size<=w.heap.size+1+1+1 by omega) _;exact P3.out.bel⟩
 |false=>
  rw[hsa]at o1
  cases hsb:(V ib).s with
  |true=>
   rw[hsb]at o7
   go_wp2
   exact bodyPost_ret (v:=.agg (oL (V ia) (V ib) c true).toArray) (by simp[results,Tryz.results64,go_sem,oL, *]) rfl ⟨congrArg (fun q=>Ending.returned (.agg (oL (V ia) (V ib) c q).toArray)) (by simp[*]),by(iterate 14 refine Below.setCell ?_ (show w.heap.size<=w.heap.size+1+1 by omega) _);refine Below.setCell ?_ (show w.heap.size<=w.heap.size+1+1+1 by omega) _;exact P3.out.bel⟩
  |false=>
   rw[hsb]at o7
   by_cases ez:c=2
   ·have ez2:(c==2)=true:=by simp[ez]
    have ez3:decide (c=2)=true:=by simp[ez]
    clear ez
    go_wp2
    exact bodyPost_ret (v:=.agg (oL (V ia) (V ib) c true).toArray) (by simp[results,Tryz.results64,go_sem,oL, *]) rfl ⟨congrArg (fun q=>Ending.returned (.agg (oL (V ia) (V ib) c q).toArray)) (by simp[*]),by(iterate 14 refine Below.setCell ?_ (show w.heap.size<=w.heap.size+1+1 by omega) _);refine Below.setCell ?_ (show w.heap.size<=w.heap.size+1+1+1 by omega) _;exact P3.out.bel⟩
   ·have ez2:(c==2)=false:=by simp[ez]
    have ez3:decide (c=2)=false:=by simp[ez]
    clear ez
    go_wp2
    exact bodyPost_ret (v:=.agg (oL (V ia) (V ib) c false).toArray) (by simp[results,Tryz.results64,go_sem,oL, *]) rfl ⟨congrArg (fun q=>Ending.returned (.agg (oL (V ia) (V ib) c q).toArray)) (by simp[*]),by(iterate 14 refine Below.setCell ?_ (show w.heap.size<=w.heap.size+1+1 by omega) _);refine Below.setCell ?_ (show w.heap.size<=w.heap.size+1+1+1 by omega) _;exact P3.out.bel⟩
end Go.Proofs.YtbahofiiaodpdaaGreat
