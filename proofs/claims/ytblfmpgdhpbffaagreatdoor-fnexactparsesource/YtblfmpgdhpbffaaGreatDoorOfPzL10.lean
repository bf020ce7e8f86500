import Derived.Test.YtblfmpgdhpbffaaGreatDoorOfPzL2
set_option maxHeartbeats 6400000
set_option maxRecDepth 20000
namespace Go.Proofs.YtblfmpgdhpbffaaGreatDoor
open Go.RowKit Go.Proofs
def ValR(r:Option VV)(e:Ending):Prop:=∃v:VV,e=.returned (.tuple #[v.v,.bool r.isSome])/\∀x,r=some x->v=x
def ptrM(a b c:List UInt8):Option VV:=match numW false a,numW true b,numW true c with|some h,some lo,some hi=>some ⟨1,false,0,h,lo,hi⟩|_,_,_=>none
def numM(a b:List UInt8):Option VV:=match(if a=[97,110,121]then some (-1)else numW false a),secW b with|some m,some s=>some ⟨0,s,m,0,0,0⟩|_,_=>none
theorem num0(s:ByteArray):rdNum 0 s.data.toList=numW false s.data.toList:=by rw[show(0:Int)=(if false=true then -9999999999999 else 0)from rfl,rdNum_same]
theorem num1(s:ByteArray):rdNum (-9999999999999) s.data.toList=numW true s.data.toList:=by rw[show(-9999999999999:Int)=(if true=true then -9999999999999 else 0)from rfl,rdNum_same]
theorem readPtrVal_any(s0 s1 s2:ByteArray)(w:World){B:Nat}(hE:Env w B)(hB:B<=w.heap.size)(h0:(s0.size:Int)<=200000)(h1:(s1.size:Int)<=200000)(h2:(s2.size:Int)<=200000):
 Calls Tryz.prog 95 #[.string s0,.string s1,.string s2] w fun e w'=>ValR (ptrM s0.data.toList s1.data.toList s2.data.toList) e/\Below w.heap.size w w':=by
 obtain⟨RR,hRR⟩:∃y,(ptrM s0.data.toList s1.data.toList s2.data.toList)=y:=⟨_,rfl⟩
 rw[hRR];have HRR:Hid ((match numW false s0.data.toList,numW true s1.data.toList,numW true s2.data.toList with|some h,some lo,some hi=>some (⟨1,false,0,h,lo,hi⟩:VV)|_,_,_=>none)=RR):=hRR;have HE:Hid (Env w B):=hE;clear hE hRR;go_enter Tryz.func95,Tryz.ntmps95;go_upto_region 1 with fail;obtain⟨u,hu,hb,hv⟩:∃y,w.alloc (.cells #[.int .i64 0,.bool false,.int .i64 0,.int .i64 0,.int .i64 0,.int .i64 0] 47)=y/\Below w.heap.size w y/\y.heap[w.heap.size]?=some (.cells #[.int .i64 0,.bool false,.int .i64 0,.int .i64 0,.int .i64 0,.int .i64 0] 47):=⟨_,rfl,(Below.refl _ _).alloc (Nat.le_refl _) _,heap_alloc_newB _ _⟩
 rw[hu];obtain⟨vb,hvb⟩:∃y,w.heap.size=y:=⟨_,rfl⟩
 rw[hvb]at hv⊢;have HVB:Hid (w.heap.size=vb):=hvb;have B0:Hid (Below w.heap.size w u):=hb;have V0:Hid (u.heap[vb]?=some (.cells #[.int .i64 0,.bool false,.int .i64 0,.int .i64 0,.int .i64 0,.int .i64 0] 47)):=hv;clear hu hb hv hvb;go_wp2_with fail;refine(readNumber_any s0 0 u (HE.out.below (B0.out.mono hB)) (by have:=B0.out.size;omega) h0).mono ?_;rintro e u1⟨j0,rfl,hj0,hb⟩;rw[num0]at hj0⊢;have B1:Hid (Below w.heap.size w u1):=B0.out.trans (hb.mono B0.out.size);have V1:Hid (u1.heap[vb]?=some (.cells #[.int .i64 0,.bool false,.int .i64 0,.int .i64 0,.int .i64 0,.int .i64 0] 47)):=(hb.block vb (Array.getElem?_eq_some_iff.1 V0.out).1).trans V0.out;have HJ0:Hid (∀v,numW false s0.data.toList=some v->j0=v):=hj0;obtain⟨b0,hb0⟩:∃y,(numW false s0.data.toList).isSome=y:=⟨_,rfl⟩
 rw[hb0];have HB0:Hid ((numW false s0.data.toList).isSome=b0):=hb0;clear hb hj0 hb0;go_wp2_with fail;refine(readNumber_any s1 (-9999999999999) u1 (HE.out.below (B1.out.mono hB)) (by have:=B1.out.size;omega) h1).mono ?_;rintro e u2⟨j1,rfl,hj1,hb⟩;rw[num1]at hj1⊢;have B2:Hid (Below w.heap.size w u2):=B1.out.trans (hb.mono B1.out.size);have V2:Hid (u2.heap[vb]?=some (.cells #[.int .i64 0,.bool false,.int .i64 0,.int .i64 0,.int .i64 0,.int .i64 0] 47)):=(hb.block vb (Array.getElem?_eq_some_iff.1 V1.out).1).trans V1.out;have HJ1:Hid (∀v,numW true s1.data.toList=some v->j1=v):=hj1;obtain⟨b1,hb1⟩:∃y,(numW true s1.data.toList).isSome=y:=⟨_,rfl⟩
 rw[hb1];have HB1:Hid ((numW true s1.data.toList).isSome=b1):=hb1;clear hb hj1 hb1;go_wp2_with fail;refine(readNumber_any s2 (-9999999999999) u2 (HE.out.below (B2.out.mono hB)) (by have:=B2.out.size;omega) h2).mono ?_;rintro e u3⟨j2,rfl,hj2,hb⟩;rw[num1]at hj2⊢;have B3:Hid (Below w.heap.size w u3):=B2.out.trans (hb.mono B2.out.size);have V3:Hid (u3.heap[vb]?=some (.cells #[.int .i64 0,.bool false,.int .i64 0,.int .i64 0,.int .i64 0,.int .i64 0] 47)):=(hb.block vb (Array.getElem?_eq_some_iff.1 V2.out).1).trans V2.out;have HJ2:Hid (∀v,numW true s2.data.toList=some v->j2=v):=hj2;obtain⟨b2,hb2⟩:∃y,(numW true s2.data.toList).isSome=y:=⟨_,rfl⟩
 rw[hb2];have HB2:Hid ((numW true s2.data.toList).isSome=b2):=hb2;clear hb hj2 hb2;have z0:=hp_cell V3.out 0;have z1:=hp_cell V3.out 1;have z2:=hp_cell V3.out 2;have z3:=hp_cell V3.out 3;have z4:=hp_cell V3.out 4;have z5:=hp_cell V3.out 5;simp only[List.getElem?_toArray,List.getElem?_cons_zero,List.getElem?_cons_succ]at z0 z1 z2 z3 z4 z5;have zf:=hp_frz V3.out;have HFIN:Hid (∀bb:Bool,bb=(b0&&b1&&b2)->ValR RR (.returned (.tuple #[.agg #[.int .i64 1,.bool false,.int .i64 0,.int .i64 j0,.int .i64 j1,.int .i64 j2],.bool bb]))):=(by
  rintro bb rfl;refine⟨⟨1,false,0,j0,j1,j2⟩,?_,?_⟩
  ·rw[<-HRR.out,<-HB0.out,<-HB1.out,<-HB2.out]
   cases numW false s0.data.toList<;>cases numW true s1.data.toList<;>cases numW true s2.data.toList<;>rfl
  ·intro x hx
   rw[<-HRR.out]at hx;cases q0:numW false s0.data.toList with
   |none=>rw[q0]at hx;cases hx
   |some a=>cases q1:numW true s1.data.toList with
    |none=>rw[q0,q1]at hx;cases hx
    |some b=>cases q2:numW true s2.data.toList with
     |none=>rw[q0,q1,q2]at hx;cases hx
     |some c=>rw[q0,q1,q2]at hx;cases hx;rw[HJ0.out a q0,HJ1.out b q1,HJ2.out c q2]:∀bb:Bool,bb=(b0&&b1&&b2)->ValR RR (.returned (.tuple #[.agg #[.int .i64 1,.bool false,.int .i64 0,.int .i64 j0,.int .i64 j1,.int .i64 j2],.bool bb])))
 have HB9:Hid (Below w.heap.size w (setW u3 vb 0 [.int .i64 1,.bool false,.int .i64 0,.int .i64 j0,.int .i64 j1,.int .i64 j2])):=below_setW (Nat.le_of_eq HVB.out) _ _ B3.out;cases b0 with
 |false=>
  cases b1 with
  |false=>
   cases b2 with
   |false=>
    go_wp2;refine bodyPost_ret (v:=.tuple #[.agg #[.int .i64 1,.bool false,.int .i64 0,.int .i64 j0,.int .i64 j1,.int .i64 j2],.bool false]) (by simp[results,Tryz.results95,go_sem,z0,z1,z2,z3,z4,z5]) rfl ⟨HFIN.out false rfl,HB9.out⟩
   |true=>
    go_wp2;refine bodyPost_ret (v:=.tuple #[.agg #[.int .i64 1,.bool false,.int .i64 0,.int .i64 j0,.int .i64 j1,.int .i64 j2],.bool false]) (by simp[results,Tryz.results95,go_sem,z0,z1,z2,z3,z4,z5]) rfl ⟨HFIN.out false rfl,HB9.out⟩
  |true=>
   cases b2 with
   |false=>
    go_wp2;refine bodyPost_ret (v:=.tuple #[.agg #[.int .i64 1,.bool false,.int .i64 0,.int .i64 j0,.int .i64 j1,.int .i64 j2],.bool false]) (by simp[results,Tryz.results95,go_sem,z0,z1,z2,z3,z4,z5]) rfl ⟨HFIN.out false rfl,HB9.out⟩
   |true=>
    go_wp2;refine bodyPost_ret (v:=.tuple #[.agg #[.int .i64 1,.bool false,.int .i64 0,.int .i64 j0,.int .i64 j1,.int .i64 j2],.bool false]) (by simp[results,Tryz.results95,go_sem,z0,z1,z2,z3,z4,z5]) rfl ⟨HFIN.out false rfl,HB9.out⟩
 |true=>
  cases b1 with
  |false=>
   cases b2 with
   |false=>
    go_wp2;refine bodyPost_ret (v:=.tuple #[.agg #[.int .i64 1,.bool false,.int .i64 0,.int .i64 j0,.int .i64 j1,.int .i64 j2],.bool false]) (by simp[results,Tryz.results95,go_sem,z0,z1,z2,z3,z4,z5]) rfl ⟨HFIN.out false rfl,HB9.out⟩
   |true=>
    go_wp2;refine bodyPost_ret (v:=.tuple #[.agg #[.int .i64 1,.bool false,.int .i64 0,.int .i64 j0,.int .i64 j1,.int .i64 j2],.bool false]) (by simp[results,Tryz.results95,go_sem,z0,z1,z2,z3,z4,z5]) rfl ⟨HFIN.out false rfl,HB9.out⟩
  |true=>
   cases b2 with
   |false=>
    go_wp2;refine bodyPost_ret (v:=.tuple #[.agg #[.int .i64 1,.bool false,.int .i64 0,.int .i64 j0,.int .i64 j1,.int .i64 j2],.bool false]) (by simp[results,Tryz.results95,go_sem,z0,z1,z2,z3,z4,z5]) rfl ⟨HFIN.out false rfl,HB9.out⟩
   |true=>
    go_wp2;refine bodyPost_ret (v:=.tuple #[.agg #[.int .i64 1,.bool false,.int .i64 0,.int .i64 j0,.int .i64 j1,.int .i64 j2],.bool true]) (by simp[results,Tryz.results95,go_sem,z0,z1,z2,z3,z4,z5]) rfl ⟨HFIN.out true rfl,HB9.out⟩
theorem readNumVal_any(s0 s1:ByteArray)(w:World){B:Nat}(hE:Env w B)(hB:B<=w.heap.size)(h0:(s0.size:Int)<=200000):
 Calls Tryz.prog 94 #[.string s0,.string s1] w fun e w'=>ValR (numM s0.data.toList s1.data.toList) e/\Below w.heap.size w w':=by
 obtain⟨RR,hRR⟩:∃y,(numM s0.data.toList s1.data.toList)=y:=⟨_,rfl⟩
 rw[hRR];have HRR:Hid ((match(if s0.data.toList=[97,110,121]then some (-1)else numW false s0.data.toList),secW s1.data.toList with|some m,some s=>some (⟨0,s,m,0,0,0⟩:VV)|_,_=>none)=RR):=hRR;have HE:Hid (Env w B):=hE;clear hE hRR;go_enter Tryz.func94,Tryz.ntmps94;go_upto_region 1 with fail;obtain⟨u,hu,hb,hv⟩:∃y,w.alloc (.cells #[.int .i64 0,.bool false,.int .i64 0,.int .i64 0,.int .i64 0,.int .i64 0] 47)=y/\Below w.heap.size w y/\y.heap[w.heap.size]?=some (.cells #[.int .i64 0,.bool false,.int .i64 0,.int .i64 0,.int .i64 0,.int .i64 0] 47):=⟨_,rfl,(Below.refl _ _).alloc (Nat.le_refl _) _,heap_alloc_newB _ _⟩
 rw[hu];obtain⟨vb,hvb⟩:∃y,w.heap.size=y:=⟨_,rfl⟩
 rw[hvb]at hv⊢;have HVB:Hid (w.heap.size=vb):=hvb;have B0:Hid (Below w.heap.size w u):=hb;have V0:Hid (u.heap[vb]?=some (.cells #[.int .i64 0,.bool false,.int .i64 0,.int .i64 0,.int .i64 0,.int .i64 0] 47)):=hv;clear hu hb hv hvb;by_cases ha:s0.data.toList=[97,110,121]
 ·obtain⟨e1,e2⟩:=beqT (l:=s0.data.toList) (s:=s0) rfl ha
  have HA:Hid (s0.data.toList=[97,110,121]):=ha;clear ha;go_wp2_with fail;refine(placeIn_any ⟨#[112,117,98,108,105,99,32,115,101,99,114,101,116]⟩ [[112,117,98,108,105,99],[115,101,99,114,101,116]] s1 u (HE.out.below (B0.out.mono hB)) (by decide) (by decide) (by kernel_rfl) (by decide)).mono ?_;rintro e t1⟨rfl,hb1⟩;rw[idx2 _ _ s1.data.toList s1 rfl];obtain⟨sv,hsv⟩:∃y:Int,(if s1.data.toList=[112,117,98,108,105,99]then(0:Int)else if s1.data.toList=[115,101,99,114,101,116]then 1 else -1)=y:=⟨_,rfl⟩
  have HSV:Hid ((0<=sv/\secW s1.data.toList=some (sv==1))∨(sv= -1/\secW s1.data.toList=none)):=(by have h:=sec_place s1.data.toList;simp only at h;rw[hsv]at h;exact h:(0<=sv/\secW s1.data.toList=some (sv==1))∨(sv= -1/\secW s1.data.toList=none))
  rw[hsv];have B9:Hid (Below w.heap.size w t1):=B0.out.trans (hb1.mono B0.out.size);have V9:Hid (t1.heap[vb]?=some (.cells #[.int .i64 0,.bool false,.int .i64 0,.int .i64 0,.int .i64 0,.int .i64 0] 47)):=(hb1.block vb (Array.getElem?_eq_some_iff.1 V0.out).1).trans V0.out;clear hsv hb1;have z0:=hp_cell V9.out 0;have z1:=hp_cell V9.out 1;have z2:=hp_cell V9.out 2;have z3:=hp_cell V9.out 3;have z4:=hp_cell V9.out 4;have z5:=hp_cell V9.out 5;simp only[List.getElem?_toArray,List.getElem?_cons_zero,List.getElem?_cons_succ]at z0 z1 z2 z3 z4 z5;have zf:=hp_frz V9.out;have HFIN:Hid (∀bb:Bool,bb=(true&&decide (0<=sv))->ValR RR (.returned (.tuple #[.agg #[.int .i64 0,.bool (sv==1),.int .i64 (-1),.int .i64 0,.int .i64 0,.int .i64 0],.bool bb]))):=(by
   have hk:(secW s1.data.toList).isSome=decide (0<=sv):=(by
    rcases HSV.out with⟨h1,h2⟩|⟨h1,h2⟩
    ·rw[h2,decide_eq_true h1];rfl
    ·rw[h2,h1];rfl)
   have hx1:∀b,secW s1.data.toList=some b->b=(sv==1):=(fun b hb=>by
    rcases HSV.out with⟨h1,h2⟩|⟨h1,h2⟩
    ·rw[h2]at hb;exact(Option.some.inj hb).symm
    ·rw[h2]at hb;cases hb)
   rintro bb rfl;have hR:RR=(match secW s1.data.toList with|some s=>some (⟨0,s,-1,0,0,0⟩:VV)|none=>none):=by
    rw[<-HRR.out,if_pos HA.out];cases secW s1.data.toList<;>rfl
   refine⟨⟨0,(sv==1),-1,0,0,0⟩,?_,?_⟩
   ·rw[hR,<-hk]
    cases secW s1.data.toList<;>rfl
   ·intro x hx
    rw[hR]at hx;cases q:secW s1.data.toList with
    |none=>rw[q]at hx;cases hx
    |some b=>rw[q]at hx;cases hx;rw[hx1 b q]:∀bb:Bool,bb=(true&&decide (0<=sv))->ValR RR (.returned (.tuple #[.agg #[.int .i64 0,.bool (sv==1),.int .i64 (-1),.int .i64 0,.int .i64 0,.int .i64 0],.bool bb])))
  have HB9:Hid (Below w.heap.size w (setW t1 vb 0 [.int .i64 0,.bool (sv==1),.int .i64 (-1),.int .i64 0,.int .i64 0,.int .i64 0])):=below_setW (Nat.le_of_eq HVB.out) _ _ B9.out;obtain⟨sb,hsb⟩:∃y,(sv==1)=y:=⟨_,rfl⟩
  rw[hsb]at HFIN HB9;by_cases hq:0<=sv
  ·have e7:decide ((0:Int)<=sv)=true:=decide_eq_true hq
   rw[e7]at HFIN;go_wp2;refine bodyPost_ret (v:=.tuple #[.agg #[.int .i64 0,.bool sb,.int .i64 (-1),.int .i64 0,.int .i64 0,.int .i64 0],.bool true]) (by simp[results,Tryz.results94,go_sem,z0,z1,z2,z3,z4,z5]) rfl ⟨HFIN.out true rfl,HB9.out⟩
  ·have e7:decide ((0:Int)<=sv)=false:=decide_eq_false hq
   rw[e7]at HFIN;go_wp2;refine bodyPost_ret (v:=.tuple #[.agg #[.int .i64 0,.bool sb,.int .i64 (-1),.int .i64 0,.int .i64 0,.int .i64 0],.bool false]) (by simp[results,Tryz.results94,go_sem,z0,z1,z2,z3,z4,z5]) rfl ⟨HFIN.out false rfl,HB9.out⟩
 ·obtain⟨e1,e2⟩:=beqF (l:=s0.data.toList) (s:=s0) rfl ha
  have HA:Hid (¬s0.data.toList=[97,110,121]):=ha;clear ha;go_wp2_with fail;refine(readNumber_any s0 0 u (HE.out.below (B0.out.mono hB)) (by have:=B0.out.size;omega) h0).mono ?_;rintro e u1⟨j0,rfl,hj0,hb⟩;rw[num0]at hj0⊢;have B1:Hid (Below w.heap.size w u1):=B0.out.trans (hb.mono B0.out.size);have V1:Hid (u1.heap[vb]?=some (.cells #[.int .i64 0,.bool false,.int .i64 0,.int .i64 0,.int .i64 0,.int .i64 0] 47)):=(hb.block vb (Array.getElem?_eq_some_iff.1 V0.out).1).trans V0.out;have HJ0:Hid (∀v,numW false s0.data.toList=some v->j0=v):=hj0;obtain⟨b0,hb0⟩:∃y,(numW false s0.data.toList).isSome=y:=⟨_,rfl⟩
  rw[hb0];have HB0:Hid ((numW false s0.data.toList).isSome=b0):=hb0;clear hb hj0 hb0;go_wp2_with fail;refine(placeIn_any ⟨#[112,117,98,108,105,99,32,115,101,99,114,101,116]⟩ [[112,117,98,108,105,99],[115,101,99,114,101,116]] s1 u1 (HE.out.below (B1.out.mono hB)) (by decide) (by decide) (by kernel_rfl) (by decide)).mono ?_;rintro e t1⟨rfl,hb1⟩;rw[idx2 _ _ s1.data.toList s1 rfl];obtain⟨sv,hsv⟩:∃y:Int,(if s1.data.toList=[112,117,98,108,105,99]then(0:Int)else if s1.data.toList=[115,101,99,114,101,116]then 1 else -1)=y:=⟨_,rfl⟩
  have HSV:Hid ((0<=sv/\secW s1.data.toList=some (sv==1))∨(sv= -1/\secW s1.data.toList=none)):=(by have h:=sec_place s1.data.toList;simp only at h;rw[hsv]at h;exact h:(0<=sv/\secW s1.data.toList=some (sv==1))∨(sv= -1/\secW s1.data.toList=none))
  rw[hsv];have B9:Hid (Below w.heap.size w t1):=B1.out.trans (hb1.mono B1.out.size);have V9:Hid (t1.heap[vb]?=some (.cells #[.int .i64 0,.bool false,.int .i64 0,.int .i64 0,.int .i64 0,.int .i64 0] 47)):=(hb1.block vb (Array.getElem?_eq_some_iff.1 V1.out).1).trans V1.out;clear hsv hb1;have z0:=hp_cell V9.out 0;have z1:=hp_cell V9.out 1;have z2:=hp_cell V9.out 2;have z3:=hp_cell V9.out 3;have z4:=hp_cell V9.out 4;have z5:=hp_cell V9.out 5;simp only[List.getElem?_toArray,List.getElem?_cons_zero,List.getElem?_cons_succ]at z0 z1 z2 z3 z4 z5;have zf:=hp_frz V9.out;have HFIN:Hid (∀bb:Bool,bb=(b0&&decide (0<=sv))->ValR RR (.returned (.tuple #[.agg #[.int .i64 0,.bool (sv==1),.int .i64 j0,.int .i64 0,.int .i64 0,.int .i64 0],.bool bb]))):=(by
   have hk:(secW s1.data.toList).isSome=decide (0<=sv):=(by
    rcases HSV.out with⟨h1,h2⟩|⟨h1,h2⟩
    ·rw[h2,decide_eq_true h1];rfl
    ·rw[h2,h1];rfl)
   have hx1:∀b,secW s1.data.toList=some b->b=(sv==1):=(fun b hb=>by
    rcases HSV.out with⟨h1,h2⟩|⟨h1,h2⟩
    ·rw[h2]at hb;exact(Option.some.inj hb).symm
    ·rw[h2]at hb;cases hb)
   rintro bb rfl;have hR:RR=(match numW false s0.data.toList,secW s1.data.toList with|some m,some s=>some (⟨0,s,m,0,0,0⟩:VV)|_,_=>none):=by
    rw[<-HRR.out,if_neg HA.out]
   refine⟨⟨0,(sv==1),j0,0,0,0⟩,?_,?_⟩
   ·rw[hR,<-hk,<-HB0.out]
    cases numW false s0.data.toList<;>cases secW s1.data.toList<;>rfl
   ·intro x hx
    rw[hR]at hx;cases q0:numW false s0.data.toList with
    |none=>rw[q0]at hx;cases hx
    |some a=>cases q:secW s1.data.toList with
     |none=>rw[q0,q]at hx;cases hx
     |some b=>rw[q0,q]at hx;cases hx;rw[hx1 b q,HJ0.out a q0]:∀bb:Bool,bb=(b0&&decide (0<=sv))->ValR RR (.returned (.tuple #[.agg #[.int .i64 0,.bool (sv==1),.int .i64 j0,.int .i64 0,.int .i64 0,.int .i64 0],.bool bb])))
  have HB9:Hid (Below w.heap.size w (setW t1 vb 0 [.int .i64 0,.bool (sv==1),.int .i64 j0,.int .i64 0,.int .i64 0,.int .i64 0])):=below_setW (Nat.le_of_eq HVB.out) _ _ B9.out;obtain⟨sb,hsb⟩:∃y,(sv==1)=y:=⟨_,rfl⟩
  rw[hsb]at HFIN HB9;by_cases hq:0<=sv
  ·have e7:decide ((0:Int)<=sv)=true:=decide_eq_true hq
   rw[e7]at HFIN;cases b0 with
   |false=>
    go_wp2;refine bodyPost_ret (v:=.tuple #[.agg #[.int .i64 0,.bool sb,.int .i64 j0,.int .i64 0,.int .i64 0,.int .i64 0],.bool false]) (by simp[results,Tryz.results94,go_sem,z0,z1,z2,z3,z4,z5]) rfl ⟨HFIN.out false rfl,HB9.out⟩
   |true=>
    go_wp2;refine bodyPost_ret (v:=.tuple #[.agg #[.int .i64 0,.bool sb,.int .i64 j0,.int .i64 0,.int .i64 0,.int .i64 0],.bool true]) (by simp[results,Tryz.results94,go_sem,z0,z1,z2,z3,z4,z5]) rfl ⟨HFIN.out true rfl,HB9.out⟩
  ·have e7:decide ((0:Int)<=sv)=false:=decide_eq_false hq
   rw[e7]at HFIN;cases b0 with
   |false=>
    go_wp2;refine bodyPost_ret (v:=.tuple #[.agg #[.int .i64 0,.bool sb,.int .i64 j0,.int .i64 0,.int .i64 0,.int .i64 0],.bool false]) (by simp[results,Tryz.results94,go_sem,z0,z1,z2,z3,z4,z5]) rfl ⟨HFIN.out false rfl,HB9.out⟩
   |true=>
    go_wp2;refine bodyPost_ret (v:=.tuple #[.agg #[.int .i64 0,.bool sb,.int .i64 j0,.int .i64 0,.int .i64 0,.int .i64 0],.bool false]) (by simp[results,Tryz.results94,go_sem,z0,z1,z2,z3,z4,z5]) rfl ⟨HFIN.out false rfl,HB9.out⟩
def GC(w:World)(fb o:Nat)(g:List (List UInt8)):Prop:=fb<w.heap.size/\∀i,i<g.length->w.cell? ⟨fb,o+i,none⟩=some (.string (stB (fd g i)))
theorem GC.below{w w':World}{fb o B:Nat}{g:List (List UInt8)}(h:GC w fb o g)(hb:Below B w w')(hf:fb<B):GC w' fb o g:=⟨Nat.lt_of_lt_of_le h.1 hb.size,fun i hi=>(hb.cell (p:=⟨fb,o+i,none⟩) hf).trans (h.2 i hi)⟩
theorem FA.gc{w:World}{fb:Nat}{f:List (List UInt8)}(h:FA w fb f)(o:Nat):GC w fb o (f.drop o):=by
 obtain⟨cur,h1,h2⟩:=h.c;refine⟨(Array.getElem?_eq_some_iff.1 h1).1,fun i hi=>?_⟩;rw[List.length_drop]at hi;rw[h.cell (o+i) (by omega)];simp[fd,List.getD_eq_getElem?_getD]
theorem readVal_any(g:List (List UInt8))(fb o gc:Nat)(w:World){B:Nat}(hE:Env w B)(hB:B<=w.heap.size)(hg:GC w fb o g)(hl:∀i,((stB (fd g i)).size:Int)<=200000):
 Calls Tryz.prog 58 #[.slice (some ⟨fb,o,none⟩) g.length gc] w fun e w'=>ValR (valS g) e/\Below w.heap.size w w':=by
 obtain⟨RR,hRR⟩:∃y,valS g=y:=⟨_,rfl⟩
 rw[hRR]
 have HRR:Hid (valS g=RR):=hRR
 have HE:Hid (Env w B):=hE
 have HL:Hid (∀i,((stB (fd g i)).size:Int)<=200000):=hl
 have hfw:fb<w.heap.size:=hg.1
 clear hE hRR hl
 go_enter Tryz.func58,Tryz.ntmps58
 go_upto_region 1 with fail
 obtain⟨u,hu,hb,hv⟩:∃y,w.alloc (.cells #[.int .i64 0,.bool false,.int .i64 0,.int .i64 0,.int .i64 0,.int .i64 0] 47)=y/\Below w.heap.size w y/\y.heap[w.heap.size]?=some (.cells #[.int .i64 0,.bool false,.int .i64 0,.int .i64 0,.int .i64 0,.int .i64 0] 47):=⟨_,rfl,(Below.refl _ _).alloc (Nat.le_refl _) _,heap_alloc_newB _ _⟩
 rw[hu]
 obtain⟨vb,hvb⟩:∃y,w.heap.size=y:=⟨_,rfl⟩
 rw[hvb]at hv⊢
 have HVB:Hid (w.heap.size=vb):=hvb
 have hfv:fb<vb:=by omega
 have B0:Hid (Below w.heap.size w u):=hb
 have V0:Hid (u.heap[vb]?=some (.cells #[.int .i64 0,.bool false,.int .i64 0,.int .i64 0,.int .i64 0,.int .i64 0] 47)):=hv
 have G0:Hid (GC u fb o g):=hg.below hb (by omega)
 clear hu hb hv hvb hg
 by_cases h2:g.length=2
 ·have e1:((g.length:Int)==2)=true:=by rw[beq_iff_eq];omega
  have i0:0<g.length:=by omega
  have i1:(1:Int)<(g.length:Int):=by omega
  have H2:Hid (g.length=2):=h2
  have HD:Hid (valS g=(numM (fd g 0) (fd g 1))):=(by unfold valS;rw[if_pos h2];rfl:valS g=(numM (fd g 0) (fd g 1)))
  clear h2
  go_upto_region 2 with fail
  have r0:∀w':World,GC w' fb o g->w'.cell? ⟨fb,o,none⟩=some (.string (stB (fd g 0))):=fun w' h=>h.2 0 (by have:=H2.out;omega)
  have r1:∀w':World,GC w' fb o g->w'.cell? ⟨fb,o+1,none⟩=some (.string (stB (fd g 1))):=fun w' h=>h.2 1 (by have:=H2.out;omega)
  refine wp_region_L (T:=fun w'=>GC w' fb o g) (s:=10) (by kernel_rfl) (G0.out.below (Below.refl _ _).drew (by have:=B0.out.size;omega)) (fun hHeld=>?_)
  have BD:Hid (Below w.heap.size w u.drew):=B0.out.trans ((Below.refl _ _).drew.mono B0.out.size)
  have VD:Hid (u.drew.heap[vb]?=some (.cells #[.int .i64 0,.bool false,.int .i64 0,.int .i64 0,.int .i64 0,.int .i64 0] 47)):=V0.out
  clear B0 V0 G0
  generalize u.drew=t0 at hHeld BD VD⊢
  refine wpAnyL_tk 0 ?k1v rfl ?k1y ?k1r
  case k1y=>(intro w hSw;(try dsimp only at hSw);go_simp;try with_reducible rfl)
  try go_frame
  refine wpAnyL_tk 1 ?k2v rfl ?k2y ?k2r
  case k2y=>(intro w hSw;(try dsimp only at hSw);go_simp;try with_reducible rfl)
  try go_frame
  refine wpAnyL_tk 2 ?k3v rfl ?k3y ?k3r
  case k3y=>(intro w hSw;(try dsimp only at hSw);go_simp;try with_reducible rfl)
  try go_frame
  refine wpAnyL_tk 3 ?k4v rfl ?k4y ?k4r
  case k4y=>(intro w hSw;(try dsimp only at hSw);go_simp;try with_reducible rfl)
  try go_frame
  refine wpAnyL_tk 4 ?k5v rfl ?k5y ?k5r
  case k5y=>(intro w hSw;(try dsimp only at hSw);go_simp;try with_reducible rfl)
  try go_frame
  refine wpAnyL_tk 5 ?k6v rfl ?k6y ?k6r
  case k6y=>(intro w hSw;(try dsimp only at hSw);go_simp;try with_reducible rfl)
  try go_frame
  refine wpAnyL_call (i:=6) rfl (by kernel_rfl) (fun KK hK=>?_)
  go_simp
  refine(readNumVal_any (stB (fd g 0)) (stB (fd g 1)) t0 (HE.out.below (BD.out.mono hB)) (by have:=BD.out.size;omega) (HL.out 0)).mono ?_
  rintro e t1⟨⟨⟨xk,xs,xm,xh,xl,xi⟩,rfl,hv⟩,hb⟩
  simp only[stB_list]at hv⊢
  have HV:Hid (∀x,(numM (fd g 0) (fd g 1))=some x->(⟨xk,xs,xm,xh,xl,xi⟩:VV)=x):=hv
  obtain⟨ok,hok⟩:∃y,Option.isSome (numM (fd g 0) (fd g 1))=y:=⟨_,rfl⟩
  rw[hok]
  have HOK:Hid (Option.isSome (numM (fd g 0) (fd g 1))=ok):=hok
  have B1:Hid (Below w.heap.size w t1):=BD.out.trans (hb.mono BD.out.size)
  have V1:Hid (t1.heap[vb]?=some (.cells #[.int .i64 0,.bool false,.int .i64 0,.int .i64 0,.int .i64 0,.int .i64 0] 47)):=(hb.block vb (Array.getElem?_eq_some_iff.1 VD.out).1).trans VD.out
  have G1:GC t1 fb o g:=hHeld.below hb (by have:=BD.out.size;omega)
  clear hb hv hok BD VD
  dsimp only[VV.v]
  refine hK.out _ _ G1 (fun hHeld1=>?_)
  clear hK KK
  try go_frame
  refine wpAnyL_tk 7 ?k7v rfl ?k7y ?k7r
  case k7y=>(intro w hSw;(try dsimp only at hSw);go_simp;try with_reducible rfl)
  try go_frame
  refine wpAnyL_tk 8 ?k8v rfl ?k8y ?k8r
  case k8y=>(intro w hSw;(try dsimp only at hSw);go_simp;try with_reducible rfl)
  try go_frame
  have z0:=hp_cell V1.out 0
  have z1:=hp_cell V1.out 1
  have z2:=hp_cell V1.out 2
  have z3:=hp_cell V1.out 3
  have z4:=hp_cell V1.out 4
  have z5:=hp_cell V1.out 5
  simp only[List.getElem?_toArray,List.getElem?_cons_zero,List.getElem?_cons_succ]at z0 z1 z2 z3 z4 z5
  have zf:=hp_frz V1.out
  refine wpAnyL_call (i:=9) rfl (by kernel_rfl) (fun KK hK=>?_)
  go_simp
  have B2:Hid (Below w.heap.size w (setW t1 vb 0 [.int .i64 xk,.bool xs,.int .i64 xm,.int .i64 xh,.int .i64 xl,.int .i64 xi])):=below_setW (Nat.le_of_eq HVB.out) _ _ B1.out
  have V2:Hid ((setW t1 vb 0 [.int .i64 xk,.bool xs,.int .i64 xm,.int .i64 xh,.int .i64 xl,.int .i64 xi]).heap[vb]?=some (.cells #[.int .i64 xk,.bool xs,.int .i64 xm,.int .i64 xh,.int .i64 xl,.int .i64 xi] 47)):=heap_setW V1.out
  have G2:GC (setW t1 vb 0 [.int .i64 xk,.bool xs,.int .i64 xm,.int .i64 xh,.int .i64 xl,.int .i64 xi]) fb o g:=G1.below (below_setW (Nat.le_refl vb) _ _ (Below.refl _ _)) hfv
  refine hK.out _ _ G2 (fun hHeld2=>?_)
  clear hK KK z0 z1 z2 z3 z4 z5 zf
  try go_frame
  change wpAnyL _ _ _ _ _ _ _ _ _ (setW t1 vb 0 [.int .i64 xk,.bool xs,.int .i64 xm,.int .i64 xh,.int .i64 xl,.int .i64 xi])
  generalize setW t1 vb 0 [.int .i64 xk,.bool xs,.int .i64 xm,.int .i64 xh,.int .i64 xl,.int .i64 xi]=t2 at B2 V2⊢
  refine wpAnyL_store rfl (by kernel_rfl) (by kernel_rfl) (fun KK hK=>?_)
  go_simp
  refine hK.out _ _ ?_
  clear hK KK
  have z0:=hp_cell V2.out 0
  have z1:=hp_cell V2.out 1
  have z2:=hp_cell V2.out 2
  have z3:=hp_cell V2.out 3
  have z4:=hp_cell V2.out 4
  have z5:=hp_cell V2.out 5
  simp only[List.getElem?_toArray,List.getElem?_cons_zero,List.getElem?_cons_succ]at z0 z1 z2 z3 z4 z5
  have zf:=hp_frz V2.out
  have HFIN:Hid (ValR RR (.returned (.tuple #[.agg #[.int .i64 xk,.bool xs,.int .i64 xm,.int .i64 xh,.int .i64 xl,.int .i64 xi],.bool ok]))):=(by rw[<-HRR.out,HD.out,<-HOK.out];exact⟨⟨xk,xs,xm,xh,xl,xi⟩,rfl,fun x hx=>HV.out x hx⟩:ValR RR (.returned (.tuple #[.agg #[.int .i64 xk,.bool xs,.int .i64 xm,.int .i64 xh,.int .i64 xl,.int .i64 xi],.bool ok])))
  go_wp2
  refine bodyPost_ret (v:=.tuple #[.agg #[.int .i64 xk,.bool xs,.int .i64 xm,.int .i64 xh,.int .i64 xl,.int .i64 xi],.bool ok]) (by simp[results,Tryz.results58,go_sem,z0,z1,z2,z3,z4,z5]) rfl ⟨HFIN.out,B2.out⟩
 ·have e1:((g.length:Int)==2)=false:=by rw[beq_eq_false_iff_ne];omega
  by_cases h4:g.length=4
  rotate_left
  ·have e2:((g.length:Int)==4)=false:=by rw[beq_eq_false_iff_ne];omega
   have HX:Hid (¬g.length=2/\¬(g.length=4/\fd g 0=[112,116,114])):=⟨h2,fun h=>h4 h.1⟩
   clear h2 h4
   have HN:Hid (RR=none):=(by rw[<-HRR.out];unfold valS;rw[if_neg HX.out.1,if_neg HX.out.2]:RR=none)
   have z0:=hp_cell V0.out 0
   have z1:=hp_cell V0.out 1
   have z2:=hp_cell V0.out 2
   have z3:=hp_cell V0.out 3
   have z4:=hp_cell V0.out 4
   have z5:=hp_cell V0.out 5
   simp only[List.getElem?_toArray,List.getElem?_cons_zero,List.getElem?_cons_succ]at z0 z1 z2 z3 z4 z5
   have zf:=hp_frz V0.out
   have HFIN:Hid (ValR RR (.returned (.tuple #[.agg #[.int .i64 0,.bool false,.int .i64 0,.int .i64 0,.int .i64 0,.int .i64 0],.bool false]))):=(by rw[HN.out];exact⟨⟨0,false,0,0,0,0⟩,rfl,fun x hx=>by cases hx⟩:ValR RR (.returned (.tuple #[.agg #[.int .i64 0,.bool false,.int .i64 0,.int .i64 0,.int .i64 0,.int .i64 0],.bool false])))
   have HB9:Hid (Below w.heap.size w (setW u vb 0 [.int .i64 0,.bool false,.int .i64 0,.int .i64 0,.int .i64 0,.int .i64 0])):=below_setW (Nat.le_of_eq HVB.out) _ _ B0.out
   go_wp2
   refine bodyPost_ret (v:=.tuple #[.agg #[.int .i64 0,.bool false,.int .i64 0,.int .i64 0,.int .i64 0,.int .i64 0],.bool false]) (by simp[results,Tryz.results58,go_sem,z0,z1,z2,z3,z4,z5]) rfl ⟨HFIN.out,HB9.out⟩
  have e2:((g.length:Int)==4)=true:=by rw[beq_iff_eq];omega
  have i0:0<g.length:=by omega
  have i1:(1:Int)<(g.length:Int):=by omega
  have i2:(2:Int)<(g.length:Int):=by omega
  have i3:(3:Int)<(g.length:Int):=by omega
  have H2:Hid (g.length=4):=h4
  have H3:Hid (¬g.length=2):=h2
  clear h4 h2
  have g0:u.cell? ⟨fb,o,none⟩=some (.string (stB (fd g 0))):=G0.out.2 0 (by have:=H2.out;omega)
  by_cases hp:fd g 0=[112,116,114]
  rotate_left
  ·obtain⟨e4,e5⟩:=beqF (s:=stB (fd g 0)) rfl hp
   have HX:Hid (¬(g.length=4/\fd g 0=[112,116,114])):=fun h=>hp h.2
   clear hp
   have HN:Hid (RR=none):=(by rw[<-HRR.out];unfold valS;rw[if_neg H3.out,if_neg HX.out]:RR=none)
   have z0:=hp_cell V0.out 0
   have z1:=hp_cell V0.out 1
   have z2:=hp_cell V0.out 2
   have z3:=hp_cell V0.out 3
   have z4:=hp_cell V0.out 4
   have z5:=hp_cell V0.out 5
   simp only[List.getElem?_toArray,List.getElem?_cons_zero,List.getElem?_cons_succ]at z0 z1 z2 z3 z4 z5
   have zf:=hp_frz V0.out
   have HFIN:Hid (ValR RR (.returned (.tuple #[.agg #[.int .i64 0,.bool false,.int .i64 0,.int .i64 0,.int .i64 0,.int .i64 0],.bool false]))):=(by rw[HN.out];exact⟨⟨0,false,0,0,0,0⟩,rfl,fun x hx=>by cases hx⟩:ValR RR (.returned (.tuple #[.agg #[.int .i64 0,.bool false,.int .i64 0,.int .i64 0,.int .i64 0,.int .i64 0],.bool false])))
   have HB9:Hid (Below w.heap.size w (setW u vb 0 [.int .i64 0,.bool false,.int .i64 0,.int .i64 0,.int .i64 0,.int .i64 0])):=below_setW (Nat.le_of_eq HVB.out) _ _ B0.out
   go_wp2
   refine bodyPost_ret (v:=.tuple #[.agg #[.int .i64 0,.bool false,.int .i64 0,.int .i64 0,.int .i64 0,.int .i64 0],.bool false]) (by simp[results,Tryz.results58,go_sem,z0,z1,z2,z3,z4,z5]) rfl ⟨HFIN.out,HB9.out⟩
  obtain⟨e4,e5⟩:=beqT (s:=stB (fd g 0)) rfl hp
  have HD:Hid (valS g=(ptrM (fd g 1) (fd g 2) (fd g 3))):=(by unfold valS;rw[if_neg H3.out,if_pos ⟨H2.out,hp⟩];rfl:valS g=(ptrM (fd g 1) (fd g 2) (fd g 3)))
  clear hp
  go_upto_region 4 with fail
  clear g0
  have r1:∀w':World,GC w' fb o g->w'.cell? ⟨fb,o+1,none⟩=some (.string (stB (fd g 1))):=fun w' h=>h.2 1 (by have:=H2.out;omega)
  have r2:∀w':World,GC w' fb o g->w'.cell? ⟨fb,o+2,none⟩=some (.string (stB (fd g 2))):=fun w' h=>h.2 2 (by have:=H2.out;omega)
  have r3:∀w':World,GC w' fb o g->w'.cell? ⟨fb,o+3,none⟩=some (.string (stB (fd g 3))):=fun w' h=>h.2 3 (by have:=H2.out;omega)
  refine wp_region_L (T:=fun w'=>GC w' fb o g) (s:=13) (by kernel_rfl) (G0.out.below (Below.refl _ _).drew (by have:=B0.out.size;omega)) (fun hHeld=>?_)
  have BD:Hid (Below w.heap.size w u.drew):=B0.out.trans ((Below.refl _ _).drew.mono B0.out.size)
  have VD:Hid (u.drew.heap[vb]?=some (.cells #[.int .i64 0,.bool false,.int .i64 0,.int .i64 0,.int .i64 0,.int .i64 0] 47)):=V0.out
  clear B0 V0 G0
  generalize u.drew=t0 at hHeld BD VD⊢
  refine wpAnyL_tk 0 ?k9v rfl ?k9y ?k9r
  case k9y=>(intro w hSw;(try dsimp only at hSw);go_simp;try with_reducible rfl)
  try go_frame
  refine wpAnyL_tk 1 ?k10v rfl ?k10y ?k10r
  case k10y=>(intro w hSw;(try dsimp only at hSw);go_simp;try with_reducible rfl)
  try go_frame
  refine wpAnyL_tk 2 ?k11v rfl ?k11y ?k11r
  case k11y=>(intro w hSw;(try dsimp only at hSw);go_simp;try with_reducible rfl)
  try go_frame
  refine wpAnyL_tk 3 ?k12v rfl ?k12y ?k12r
  case k12y=>(intro w hSw;(try dsimp only at hSw);go_simp;try with_reducible rfl)
  try go_frame
  refine wpAnyL_tk 4 ?k13v rfl ?k13y ?k13r
  case k13y=>(intro w hSw;(try dsimp only at hSw);go_simp;try with_reducible rfl)
  try go_frame
  refine wpAnyL_tk 5 ?k14v rfl ?k14y ?k14r
  case k14y=>(intro w hSw;(try dsimp only at hSw);go_simp;try with_reducible rfl)
  try go_frame
  refine wpAnyL_tk 6 ?k15v rfl ?k15y ?k15r
  case k15y=>(intro w hSw;(try dsimp only at hSw);go_simp;try with_reducible rfl)
  try go_frame
  refine wpAnyL_tk 7 ?k16v rfl ?k16y ?k16r
  case k16y=>(intro w hSw;(try dsimp only at hSw);go_simp;try with_reducible rfl)
  try go_frame
  refine wpAnyL_tk 8 ?k17v rfl ?k17y ?k17r
  case k17y=>(intro w hSw;(try dsimp only at hSw);go_simp;try with_reducible rfl)
  try go_frame
  refine wpAnyL_call (i:=9) rfl (by kernel_rfl) (fun KK hK=>?_)
  go_simp
  refine(readPtrVal_any (stB (fd g 1)) (stB (fd g 2)) (stB (fd g 3)) t0 (HE.out.below (BD.out.mono hB)) (by have:=BD.out.size;omega) (HL.out 1) (HL.out 2) (HL.out 3)).mono ?_
  rintro e t1⟨⟨⟨xk,xs,xm,xh,xl,xi⟩,rfl,hv⟩,hb⟩
  simp only[stB_list]at hv⊢
  have HV:Hid (∀x,(ptrM (fd g 1) (fd g 2) (fd g 3))=some x->(⟨xk,xs,xm,xh,xl,xi⟩:VV)=x):=hv
  obtain⟨ok,hok⟩:∃y,Option.isSome (ptrM (fd g 1) (fd g 2) (fd g 3))=y:=⟨_,rfl⟩
  rw[hok]
  have HOK:Hid (Option.isSome (ptrM (fd g 1) (fd g 2) (fd g 3))=ok):=hok
  have B1:Hid (Below w.heap.size w t1):=BD.out.trans (hb.mono BD.out.size)
  have V1:Hid (t1.heap[vb]?=some (.cells #[.int .i64 0,.bool false,.int .i64 0,.int .i64 0,.int .i64 0,.int .i64 0] 47)):=(hb.block vb (Array.getElem?_eq_some_iff.1 VD.out).1).trans VD.out
  have G1:GC t1 fb o g:=hHeld.below hb (by have:=BD.out.size;omega)
  clear hb hv hok BD VD
  dsimp only[VV.v]
  refine hK.out _ _ G1 (fun hHeld1=>?_)
  clear hK KK
  try go_frame
  refine wpAnyL_tk 10 ?k18v rfl ?k18y ?k18r
  case k18y=>(intro w hSw;(try dsimp only at hSw);go_simp;try with_reducible rfl)
  try go_frame
  refine wpAnyL_tk 11 ?k19v rfl ?k19y ?k19r
  case k19y=>(intro w hSw;(try dsimp only at hSw);go_simp;try with_reducible rfl)
  try go_frame
  have z0:=hp_cell V1.out 0
  have z1:=hp_cell V1.out 1
  have z2:=hp_cell V1.out 2
  have z3:=hp_cell V1.out 3
  have z4:=hp_cell V1.out 4
  have z5:=hp_cell V1.out 5
  simp only[List.getElem?_toArray,List.getElem?_cons_zero,List.getElem?_cons_succ]at z0 z1 z2 z3 z4 z5
  have zf:=hp_frz V1.out
  refine wpAnyL_call (i:=12) rfl (by kernel_rfl) (fun KK hK=>?_)
  go_simp
  have B2:Hid (Below w.heap.size w (setW t1 vb 0 [.int .i64 xk,.bool xs,.int .i64 xm,.int .i64 xh,.int .i64 xl,.int .i64 xi])):=below_setW (Nat.le_of_eq HVB.out) _ _ B1.out
  have V2:Hid ((setW t1 vb 0 [.int .i64 xk,.bool xs,.int .i64 xm,.int .i64 xh,.int .i64 xl,.int .i64 xi]).heap[vb]?=some (.cells #[.int .i64 xk,.bool xs,.int .i64 xm,.int .i64 xh,.int .i64 xl,.int .i64 xi] 47)):=heap_setW V1.out
  have G2:GC (setW t1 vb 0 [.int .i64 xk,.bool xs,.int .i64 xm,.int .i64 xh,.int .i64 xl,.int .i64 xi]) fb o g:=G1.below (below_setW (Nat.le_refl vb) _ _ (Below.refl _ _)) hfv
  refine hK.out _ _ G2 (fun hHeld2=>?_)
  clear hK KK z0 z1 z2 z3 z4 z5 zf
  try go_frame
  change wpAnyL _ _ _ _ _ _ _ _ _ (setW t1 vb 0 [.int .i64 xk,.bool xs,.int .i64 xm,.int .i64 xh,.int .i64 xl,.int .i64 xi])
  generalize setW t1 vb 0 [.int .i64 xk,.bool xs,.int .i64 xm,.int .i64 xh,.int .i64 xl,.int .i64 xi]=t2 at B2 V2⊢
  refine wpAnyL_store rfl (by kernel_rfl) (by kernel_rfl) (fun KK hK=>?_)
  go_simp
  refine hK.out _ _ ?_
  clear hK KK
  have z0:=hp_cell V2.out 0
  have z1:=hp_cell V2.out 1
  have z2:=hp_cell V2.out 2
  have z3:=hp_cell V2.out 3
  have z4:=hp_cell V2.out 4
  have z5:=hp_cell V2.out 5
  simp only[List.getElem?_toArray,List.getElem?_cons_zero,List.getElem?_cons_succ]at z0 z1 z2 z3 z4 z5
  have zf:=hp_frz V2.out
  have HFIN:Hid (ValR RR (.returned (.tuple #[.agg #[.int .i64 xk,.bool xs,.int .i64 xm,.int .i64 xh,.int .i64 xl,.int .i64 xi],.bool ok]))):=(by rw[<-HRR.out,HD.out,<-HOK.out];exact⟨⟨xk,xs,xm,xh,xl,xi⟩,rfl,fun x hx=>HV.out x hx⟩:ValR RR (.returned (.tuple #[.agg #[.int .i64 xk,.bool xs,.int .i64 xm,.int .i64 xh,.int .i64 xl,.int .i64 xi],.bool ok])))
  go_wp2
  refine bodyPost_ret (v:=.tuple #[.agg #[.int .i64 xk,.bool xs,.int .i64 xm,.int .i64 xh,.int .i64 xl,.int .i64 xi],.bool ok]) (by simp[results,Tryz.results58,go_sem,z0,z1,z2,z3,z4,z5]) rfl ⟨HFIN.out,B2.out⟩
theorem PR.setR{w:World}{B g c n:Nat}{S:PS}{rb sb nb ob mf km:Nat}{sH sP sO:Sl}{m:Nat}{bv:List Value}{v:VV}(h:PR w B S rb sb nb ob mf km sH ⟨some ⟨g,0,none⟩,m,c⟩ sP sO bv)(hn:n<8)(hB:B<=w.heap.size):
 PR (setW w g (n*6) (vlL v)) B {S with rg:=S.rg.set n v} rb sb nb ob mf km sH ⟨some ⟨g,0,none⟩,m,c⟩ sP sO bv/\Fm tsP B w (setW w g (n*6) (vlL v)):=by
 have ho:w.ownsRow B 47 6 (.slice (some ⟨g,0,none⟩) m c) S.rg.length (S.rg.flatMap vlL):=h.R.own 2 _ rfl;have hm:=row_n ho;subst hm;obtain⟨s1,s2⟩:=stored_all (vlL v) w _ (n*6) ho;rw[fm_setL vlL 6 (fun _=>rfl) S.rg n v (by rw[h.I.rg];exact hn)]at s1;have f:Fm tsP B w (setW w g (n*6) (vlL v)):=Fm.of_grow ho (Nat.le_refl _) s2 hB (by decide);obtain⟨h1,h2,h3,h4,h5,h6,h7⟩:=h.pk.fm f;refine⟨⟨keep_c h.C ho (by decide) s2,?_,h.L,⟨h.I.st,h.I.d,h.I.hs,by show(S.rg.set n v).length=8;rw[List.length_set];exact h.I.rg,h.I.gv,h.I.ps,h.I.op,h.I.ol,h.I.od⟩,h1,h2,h3,h4,h5,h6,h7⟩,f⟩;have q:=h.R.grow (j:=2) (r:=⟨47,6,.slice (some ⟨g,0,none⟩) S.rg.length c,S.rg.length,S.rg.flatMap vlL⟩) (r':=⟨47,6,.slice (some ⟨g,0,none⟩) S.rg.length c,(S.rg.set n v).length,(S.rg.set n v).flatMap vlL⟩) rfl s2 (by unfold Rw.own;rw[List.length_set];exact s1) (.inl rfl);exact q
theorem PR.regs{w:World}{B:Nat}{S:PS}{rb sb nb ob mf km:Nat}{sH sR sP sO:Sl}{bv:List Value}(h:PR w B S rb sb nb ob mf km sH sR sP sO bv):∃gR:Nat,sR.a=some ⟨gR,0,none⟩/\sR.n=8/\(∀i,w.frozen? ⟨gR,i,none⟩=false)/\(∀i,i<48->∃v,w.cell? ⟨gR,i,none⟩=some v)/\gR<w.heap.size:=by
 have hR:w.ownsRow B 47 6 (.slice sR.a sR.n sR.c) S.rg.length (S.rg.flatMap vlL):=h.R.own 2 _ rfl;rw[h.I.rg]at hR;obtain⟨gR,cR,e1,_,l1,_⟩:=row_someZ hR (by omega);injection e1 with a1 a2 a3;rw[a1,a2]at hR;refine⟨gR,a1,a2,fun i=>hR.frozenAt i,fun i hi=>?_,l1⟩;rw[hR.cellAt i (by omega),List.getElem?_eq_getElem (by rw[hR.1];omega)];exact⟨_,rfl⟩
theorem reg_unf(S:PS)(f:List (List UInt8))(h0:S.st=1∨S.st=2)(h2:2<=f.length){k:Nat}(hn:numW false (fd f 1)=some (k:Int))(hk:k<8)(hg:S.gv.getD k false=false):regS S f=(valS (f.drop 2)).map fun v=>{S with st:=2,rg:=S.rg.set k v,gv:=S.gv.set k true}:=by
 unfold regS;rw[if_pos ⟨h0,h2⟩,hn];simp only[Int.toNat_natCast];rw[if_pos ⟨by omega,hg⟩]
theorem reg_no(S:PS)(f:List (List UInt8))(h:∀k:Nat,numW false (fd f 1)=some (k:Int)->¬(k<8/\S.gv.getD k false=false))(hp:∀v,numW false (fd f 1)=some v->0<=v):regS S f=none:=by
 unfold regS;split
 ·cases hn:numW false (fd f 1)with
  |none=>rfl
  |some v=>
   have h0:=hp v hn;obtain⟨k,rfl⟩:=Int.eq_ofNat_of_zero_le h0;have:=h k hn;simp only[Int.toNat_natCast];rw[if_neg (fun q=>this ⟨by omega,q.2⟩)]
 ·rfl
theorem regLine_any(B:Nat)(S:PS)(rb sb nb ob mf km:Nat)(sH sR sP sO:Sl)(bv:List Value)(f:List (List UInt8))(fb fc:Nat)(w:World)(hB:B<=w.heap.size)(hm:PR w B S rb sb nb ob mf km sH sR sP sO bv)(hf:FA w fb f)(hl:∀i,((stB (fd f i)).size:Int)<=200000)(hbd:Bnd S 100000)(hfc:f.length<=fc):
 Calls Tryz.prog 30 #[.pointer (some ⟨rb,0,none⟩),.slice (some ⟨fb,0,none⟩) f.length fc] w fun e w'=>PA B w rb sb nb ob mf km (regS S f) e w':=by
 obtain⟨RR,hRR⟩:∃y,regS S f=y:=⟨_,rfl⟩
 rw[hRR];have HRR:Hid (regS S f=RR):=hRR;have M:Hid (PR w B S rb sb nb ob mf km sH sR sP sO bv):=hm;have HBD:Hid (Bnd S 100000):=hbd;have HL:Hid (∀i,((stB (fd f i)).size:Int)<=200000):=hl;have HF:Hid (FA w fb f):=hf;have hz:rb<w.heap.size:=(Array.getElem?_eq_some_iff.1 hm.C).1;have hBb:=hm.b;obtain⟨c0,c1,c2,c3,c4,c13,c14,c15,c5,cf⟩:=hm.cells;have HC5:Hid (∀k,k<8->w.cell? ⟨rb,5+k,none⟩=some (.bool (S.gv.getD k false))):=c5;clear hm hf hl hRR c5 hbd;go_enter Tryz.func30,Tryz.ntmps30;by_cases h2:2<=f.length
 rotate_left
 ·have e3:decide ((f.length:Int)<2)=true:=decide_eq_true (by omega)
  have HN:Hid (RR=none):=(by rw[<-HRR.out];unfold regS;rw[if_neg (fun h=>h2 h.2)]:RR=none)
  clear h2;by_cases h0:S.st=1
  ·have e1:((S.st:Int) !=1)=false:=by rw[bne_eq_false_iff_eq];omega
   clear h0;go_wp2_with fail;go_ret;rw[HN.out];exact⟨Fm.refl _ _ _,rfl,fun _ h=>(by cases h)⟩
  ·have e1:((S.st:Int) !=1)=true:=by rw[bne_iff_ne];omega
   clear h0;by_cases h0:S.st=2
   ·have e2:((S.st:Int) !=2)=false:=by rw[bne_eq_false_iff_eq];omega
    clear h0;go_wp2_with fail;go_ret;rw[HN.out];exact⟨Fm.refl _ _ _,rfl,fun _ h=>(by cases h)⟩
   ·have e2:((S.st:Int) !=2)=true:=by rw[bne_iff_ne];omega
    clear h0;go_wp2_with fail;go_ret;rw[HN.out];exact⟨Fm.refl _ _ _,rfl,fun _ h=>(by cases h)⟩
 have e3:decide ((f.length:Int)<2)=false:=decide_eq_false (by omega);have e4:(1:Int)<(f.length:Int):=by omega
 have H2:Hid (2<=f.length):=h2;clear h2;obtain⟨s1,hs1⟩:∃y,stB (fd f 1)=y:=⟨_,rfl⟩
 have g1:w.cell? ⟨fb,1,none⟩=some (.string s1):=(HF.out.cell 1 (by have:=H2.out;omega)).trans (by rw[hs1]);have hz1:(s1.size:Int)<=200000:=by rw[<-hs1];exact HL.out 1
 have HW:Hid (rdNum 0 s1.data.toList=numW false (fd f 1)):=(by rw[<-hs1,show(0:Int)=(if false=true then -9999999999999 else 0)from rfl,rdNum_same];simp[stB]:rdNum 0 s1.data.toList=numW false (fd f 1))
 clear hs1;by_cases h0:S.st=1∨S.st=2
 rotate_left
 ·have e1:((S.st:Int) !=1)=true:=by rw[bne_iff_ne];omega
  have e2:((S.st:Int) !=2)=true:=by rw[bne_iff_ne];omega
  have HN:Hid (RR=none):=(by rw[<-HRR.out];unfold regS;rw[if_neg (fun h=>h0 h.1)]:RR=none)
  clear h0;go_wp2_with fail;go_ret;rw[HN.out];exact⟨Fm.refl _ _ _,rfl,fun _ h=>(by cases h)⟩
 have H0:Hid (S.st=1∨S.st=2):=h0;clear h0;go_upto_region 1 with fail;go_cut [23](fun s23 wx=>s23=.bool false/\wx=w)
 case first=>
  by_cases h0:S.st=1
  ·have e1:((S.st:Int) !=1)=false:=by rw[bne_eq_false_iff_eq];omega
   clear h0;go_wp2_with fail;go_meet;exact⟨rfl,rfl⟩
  ·have e1:((S.st:Int) !=1)=true:=by rw[bne_iff_ne];omega
   have e2:((S.st:Int) !=2)=false:=by rw[bne_eq_false_iff_eq];have:=H0.out;omega
   clear h0;go_wp2_with fail;go_meet;exact⟨rfl,rfl⟩
 case rest=>
  obtain⟨rfl,hw⟩:=hcut;rw[hw];clear hw;go_wp2_with fail;refine(readNumber_any s1 0 w M.out.E hB hz1).mono ?_;rintro e u⟨j,rfl,hj,hb⟩;rw[HW.out]at hj⊢;have M1:Hid (PR u B S rb sb nb ob mf km sH sR sP sO bv):=M.out.below hb;have F1:Hid (Fm tsP B w u):=Fm.of_below hb hB;have A1:Hid (FA u fb f):=HF.out.below hb;have hBu:B<=u.heap.size:=by have:=hb.size;omega
  have HP:Hid (∀v,numW false (fd f 1)=some v->0<=v):=(fun v hv=>by simpa using(numW_back hv).1:∀v,numW false (fd f 1)=some v->0<=v)
  clear hb c0 c1 c2 c3 c4 c13 c14 c15 cf g1 HC5 M HF;cases hn:numW false (fd f 1)with
  |none=>
   have HN:Hid (RR=none):=(by rw[<-HRR.out];exact reg_no S f (fun k hk=>by rw[hn]at hk;cases hk) HP.out:RR=none)
   clear hn hj;simp only[Option.isSome_none];go_wp2_with fail;go_ret;rw[HN.out];exact⟨F1.out,rfl,fun _ h=>(by cases h)⟩
  |some v=>
   have hv:=hj v hn;subst hv;simp only[Option.isSome_some];have h0:=HP.out j hn;obtain⟨k,rfl⟩:=Int.eq_ofNat_of_zero_le h0;have HNK:Hid (numW false (fd f 1)=some (k:Int)):=hn;clear hj hn h0;by_cases hk:k<8
   rotate_left
   ·have e5:decide ((8:Int)<=(k:Int))=true:=decide_eq_true (by omega)
    have HN:Hid (RR=none):=(by rw[<-HRR.out];exact reg_no S f (fun k' hk' h=>by rw[HNK.out]at hk';have:=Int.ofNat.inj (Option.some.inj hk');omega) HP.out:RR=none)
    clear hk;go_wp2_with fail;go_ret;rw[HN.out];exact⟨F1.out,rfl,fun _ h=>(by cases h)⟩
   have e5:decide ((8:Int)<=(k:Int))=false:=decide_eq_false (by omega);have i5:(k:Int)<8:=by omega
   obtain⟨c0,c1,c2,c3,c4,c13,c14,c15,c5,cf⟩:=M1.out.cells;have gk:=c5 k hk;obtain⟨gb,hgb⟩:∃y,S.gv.getD k false=y:=⟨_,rfl⟩
   rw[hgb]at gk;have HGB:Hid (S.gv.getD k false=gb):=hgb;clear hgb c5;cases gb with
   |true=>
    have HN:Hid (RR=none):=(by rw[<-HRR.out];exact reg_no S f (fun k' hk' h=>by rw[HNK.out]at hk';have:=Int.ofNat.inj (Option.some.inj hk');subst this;rw[HGB.out]at h;cases h.2) HP.out:RR=none)
    go_wp2_with fail;go_ret;rw[HN.out];exact⟨F1.out,rfl,fun _ h=>(by cases h)⟩
   |false=>
    have HU:Hid (RR=(valS (f.drop 2)).map fun v=>{S with st:=2,rg:=S.rg.set k v,gv:=S.gv.set k true}):=(by rw[<-HRR.out];exact reg_unf S f H0.out H2.out HNK.out hk HGB.out:RR=(valS (f.drop 2)).map fun v=>{S with st:=2,rg:=S.rg.set k v,gv:=S.gv.set k true})
    go_upto_region 7 with fail;obtain⟨m2,f2⟩:=PR.set (S':={S with st:=2}) (v:=.int .i64 2) M1.out.C (rcL_set4 S sH sR sP sO sb km 2) M1.out.R M1.out.L ⟨by show 2<=3;omega,M1.out.I.d,M1.out.I.hs,M1.out.I.rg,M1.out.I.gv,fun h'=>absurd h' (by decide:¬2=3),fun _=>M1.out.I.op (by have:=H0.out;omega),M1.out.I.ol,M1.out.I.od⟩ M1.out.pk;have M2:Hid (PR (u.setCell ⟨rb,4,none⟩ (.int .i64 2)) B {S with st:=2} rb sb nb ob mf km sH sR sP sO bv):=m2;have F2:Hid (Fm tsP B w (u.setCell ⟨rb,4,none⟩ (.int .i64 2))):=F1.out.trans f2;have A2:Hid (FA (u.setCell ⟨rb,4,none⟩ (.int .i64 2)) fb f):=A1.out.fm f2 (by decide);have hB2:B<=(u.setCell ⟨rb,4,none⟩ (.int .i64 2)).heap.size:=by have:=f2.b.size;omega
    clear m2 f2 c0 c1 c2 c3 c4 c13 c14 c15 cf gk M1 F1 A1 hBu;generalize u.setCell ⟨rb,4,none⟩ (.int .i64 2)=u2 at M2 F2 A2 hB2⊢;obtain⟨c0,c1,c2,c3,c4,c13,c14,c15,c5,cf⟩:=M2.out.cells;have gk:=c5 k hk;clear c5;go_upto_region 8 with fail;obtain⟨m3,f3⟩:=PR.set (S':={S with st:=2,gv:=S.gv.set k true}) (v:=.bool true) M2.out.C (rcL_setG {S with st:=2} sH sR sP sO sb km k M2.out.I.gv hk) M2.out.R M2.out.L ⟨M2.out.I.st,M2.out.I.d,M2.out.I.hs,M2.out.I.rg,by show(S.gv.set k true).length=8;rw[List.length_set];exact M2.out.I.gv,M2.out.I.ps,M2.out.I.op,M2.out.I.ol,M2.out.I.od⟩ M2.out.pk
    have M3:Hid (PR (u2.setCell ⟨rb,5+k,none⟩ (.bool true)) B {S with st:=2,gv:=S.gv.set k true} rb sb nb ob mf km sH sR sP sO bv):=m3
    have F3:Hid (Fm tsP B w (u2.setCell ⟨rb,5+k,none⟩ (.bool true))):=F2.out.trans f3
    have A3:Hid (FA (u2.setCell ⟨rb,5+k,none⟩ (.bool true)) fb f):=A2.out.fm f3 (by decide)
    have hB3:B<=(u2.setCell ⟨rb,5+k,none⟩ (.bool true)).heap.size:=by have:=f3.b.size;omega
    clear m3 f3 c0 c1 c2 c3 c4 c13 c14 c15 cf gk M2 F2 A2 hB2
    generalize u2.setCell ⟨rb,5+k,none⟩ (.bool true)=u3 at M3 F3 A3 hB3⊢
    obtain⟨S3,hS3⟩:∃y,{S with st:=2,gv:=S.gv.set k true}=y:=⟨_,rfl⟩
    rw[hS3]at M3
    have HS3:Hid ({S with st:=2,gv:=S.gv.set k true}=S3):=hS3
    clear hS3
    obtain⟨gR,ra,rn,rf,rc,rl⟩:=M3.out.regs
    obtain⟨sRa,sRn,cR⟩:=sR
    simp only at ra rn
    subst ra rn
    have MD:Hid (PR u3.drew B S3 rb sb nb ob mf km sH ⟨some ⟨gR,0,none⟩,8,cR⟩ sP sO bv):=M3.out.below (Below.refl _ _).drew
    have FD:Hid (Fm tsP B w u3.drew):=F3.out.below (Below.refl _ _).drew hB3
    have AD:Hid (FA u3.drew fb f):=A3.out.below (Below.refl _ _).drew
    have hBd:B<=u3.drew.heap.size:=hB3
    have TD:u3.drew.heap[rb]?=some (.cells (rcL S3 sH ⟨some ⟨gR,0,none⟩,8,cR⟩ sP sO sb km).toArray 60):=MD.out.C
    have q2:∀w':World,w'.heap[rb]?=some (.cells (rcL S3 sH ⟨some ⟨gR,0,none⟩,8,cR⟩ sP sO sb km).toArray 60)->w'.cell? ⟨rb,2,none⟩=some (.slice (some ⟨gR,0,none⟩) 8 cR):=fun w' h=>hp_cell h 2
    clear M3 F3 A3 hB3 rf rc rl
    have i2:(2:Int)<=(f.length:Int):=by have:=H2.out;omega
    have i3:(f.length:Int)<=(fc:Int):=by omega
    obtain⟨oo,hif,hoo⟩:∃oo:Nat,(if fc=2 then(some ⟨fb,0,none⟩:Option Addr)else some ⟨fb,2,none⟩)=some ⟨fb,oo,none⟩/\(f.length<=2∨oo=2):=by
     by_cases q:fc=2
     ·exact⟨0,by rw[if_pos q],.inl (by omega)⟩
     ·exact⟨2,by rw[if_neg q],.inr rfl⟩
    have HOO:Hid (f.length<=2∨oo=2):=hoo
    obtain⟨g,hg⟩:∃y,f.drop 2=y:=⟨_,rfl⟩
    have hgl:f.length-2=g.length:=by rw[<-hg,List.length_drop]
    have GD:Hid (∀w',FA w' fb f->GC w' fb oo g):=(fun w' h=>by
     have q:=h.gc 2
     rw[hg]at q
     rcases HOO.out with e|e
     ·refine⟨q.1,fun i hi=>?_⟩
      rw[<-hgl]at hi
      omega
     ·rw[e];exact q:∀w',FA w' fb f->GC w' fb oo g)
    have HLG:Hid (∀i,((stB (fd g i)).size:Int)<=200000):=(fun i=>by
     have e:fd g i=fd f (2+i):=by rw[<-hg];simp[fd,List.getD_eq_getElem?_getD]
     rw[e];exact HL.out _:∀i,((stB (fd g i)).size:Int)<=200000)
    rw[hg]at HU
    clear hg hoo
    refine wp_region_L (T:=fun w'=>w'.heap[rb]?=some (.cells (rcL S3 sH ⟨some ⟨gR,0,none⟩,8,cR⟩ sP sO sb km).toArray 60)) (s:=15) (by kernel_rfl) TD (fun hHeld=>?_)
    clear TD
    generalize u3.drew=t0 at hHeld MD FD AD hBd⊢
    refine wpAnyL_tk 0 ?k1v rfl ?k1y ?k1r
    case k1y=>(intro w hSw;(try dsimp only at hSw);go_simp;try with_reducible rfl)
    try go_frame
    refine wpAnyL_tk 1 ?k2v rfl ?k2y ?k2r
    case k2y=>(intro w hSw;(try dsimp only at hSw);go_simp;try with_reducible rfl)
    try go_frame
    refine wpAnyL_tk 2 ?k3v rfl ?k3y ?k3r
    case k3y=>(intro w hSw;(try dsimp only at hSw);go_simp;try with_reducible rfl)
    try go_frame
    refine wpAnyL_tk 3 ?k4v rfl ?k4y ?k4r
    case k4y=>(intro w hSw;(try dsimp only at hSw);go_simp;try with_reducible rfl)
    try go_frame
    refine wpAnyL_tk 4 ?k5v rfl ?k5y ?k5r
    case k5y=>(intro w hSw;(try dsimp only at hSw);go_simp;try with_reducible rfl)
    try go_frame
    refine wpAnyL_tk 5 ?k6v rfl ?k6y ?k6r
    case k6y=>(intro w hSw;(try dsimp only at hSw);go_simp;try with_reducible rfl)
    try go_frame
    refine wpAnyL_tk 6 ?k7v rfl ?k7y ?k7r
    case k7y=>(intro w hSw;(try dsimp only at hSw);go_simp;try with_reducible rfl)
    try go_frame
    refine wpAnyL_tk 7 ?k8v rfl ?k8y ?k8r
    case k8y=>(intro w hSw;(try dsimp only at hSw);go_simp;try with_reducible rfl)
    try go_frame
    refine wpAnyL_tk 8 (.slice (some ⟨fb,oo,none⟩) g.length (fc-2)) rfl ?kay ?kar
    case kay=>(intro w hSw;(try dsimp only at hSw);go_simp;first|done|rw[hif]|rfl)
    try go_frame
    clear hif
    refine wpAnyL_call (i:=9) rfl (by kernel_rfl) (fun KK hK=>?_)
    go_simp
    refine(readVal_any g fb oo (fc-2) t0 MD.out.E hBd (GD.out t0 AD.out) HLG.out).mono ?_
    rintro e t1⟨⟨⟨xk,xs,xm,xh,xl,xi⟩,rfl,hv⟩,hb⟩
    have HV:Hid (∀x,valS g=some x->(⟨xk,xs,xm,xh,xl,xi⟩:VV)=x):=hv
    obtain⟨ok,hok⟩:∃y,Option.isSome (valS g)=y:=⟨_,rfl⟩
    rw[hok]
    have HOK:Hid (Option.isSome (valS g)=ok):=hok
    have M4:Hid (PR t1 B S3 rb sb nb ob mf km sH ⟨some ⟨gR,0,none⟩,8,cR⟩ sP sO bv):=MD.out.below hb
    have F4:Hid (Fm tsP B w t1):=FD.out.below hb hBd
    have hB4:B<=t1.heap.size:=by have:=hb.size;omega
    clear hb hv hok MD FD AD GD hBd
    dsimp only[VV.v]
    refine hK.out _ _ M4.out.C (fun hHeld1=>?_)
    clear hK KK
    try go_frame
    refine wpAnyL_tk 10 ?k9v rfl ?k9y ?k9r
    case k9y=>(intro w hSw;(try dsimp only at hSw);go_simp;try with_reducible rfl)
    try go_frame
    refine wpAnyL_tk 11 ?k10v rfl ?k10y ?k10r
    case k10y=>(intro w hSw;(try dsimp only at hSw);go_simp;try with_reducible rfl)
    try go_frame
    refine wpAnyL_tk 12 ?k11v rfl ?k11y ?k11r
    case k11y=>(intro w hSw;(try dsimp only at hSw);go_simp;try with_reducible rfl)
    try go_frame
    refine wpAnyL_tk 13 ?k12v rfl ?k12y ?k12r
    case k12y=>(intro w hSw;(try dsimp only at hSw);go_simp;try with_reducible rfl)
    try go_frame
    obtain⟨gx,ra,_,rf,rc,rl⟩:=M4.out.regs
    simp only[Option.some.injEq,Addr.mk.injEq,and_true]at ra
    subst ra
    obtain⟨m5,f5⟩:=PR.setR (n:=k) (v:=⟨xk,xs,xm,xh,xl,xi⟩) M4.out hk hB4
    have M5:Hid (PR (setW t1 gR (k*6) (vlL ⟨xk,xs,xm,xh,xl,xi⟩)) B {S3 with rg:=S3.rg.set k ⟨xk,xs,xm,xh,xl,xi⟩} rb sb nb ob mf km sH ⟨some ⟨gR,0,none⟩,8,cR⟩ sP sO bv):=m5
    have F5:Hid (Fm tsP B w (setW t1 gR (k*6) (vlL ⟨xk,xs,xm,xh,xl,xi⟩))):=F4.out.trans f5
    clear m5 f5 M4 F4
    obtain⟨o0,ho0⟩:∃v,t1.cell? ⟨gR,k*6,none⟩=some v:=rc (k*6) (by omega)
    obtain⟨o1,ho1⟩:∃v,t1.cell? ⟨gR,k*6+1,none⟩=some v:=rc (k*6+1) (by omega)
    obtain⟨o2,ho2⟩:∃v,t1.cell? ⟨gR,k*6+2,none⟩=some v:=rc (k*6+2) (by omega)
    obtain⟨o3,ho3⟩:∃v,t1.cell? ⟨gR,k*6+3,none⟩=some v:=rc (k*6+3) (by omega)
    obtain⟨o4,ho4⟩:∃v,t1.cell? ⟨gR,k*6+4,none⟩=some v:=rc (k*6+4) (by omega)
    obtain⟨o5,ho5⟩:∃v,t1.cell? ⟨gR,k*6+5,none⟩=some v:=rc (k*6+5) (by omega)
    clear rc
    refine wpAnyL_call (i:=14) rfl (by kernel_rfl) (fun KK hK=>?_)
    go_simp
    refine hK.out _ _ M5.out.C (fun hHeld2=>?_)
    clear hK KK ho0 ho1 ho2 ho3 ho4 ho5 rf rl
    try go_frame
    change wpAnyL _ _ _ _ _ _ _ _ _ (setW t1 gR (k*6) (vlL ⟨xk,xs,xm,xh,xl,xi⟩))
    generalize setW t1 gR (k*6) (vlL ⟨xk,xs,xm,xh,xl,xi⟩)=t2 at M5 F5⊢
    refine wpAnyL_store rfl (by kernel_rfl) (by kernel_rfl) (fun KK hK=>?_)
    go_simp
    refine hK.out _ _ ?_
    clear hK KK
    have HFIN:Hid (PA B w rb sb nb ob mf km RR (.returned (.bool ok)) t2):=(by
     rw[HU.out]
     refine⟨F5.out,by rw[<-HOK.out,Option.isSome_map],fun S' hS'=>?_⟩
     cases hvg:valS g with
     |none=>rw[hvg]at hS';cases hS'
     |some x=>
      rw[hvg]at hS'
      cases hS'
      have q:=HV.out x hvg
      subst q
      have m:=M5.out
      rw[<-HS3.out]at m
      exact⟨_,_,_,_,_,m⟩:PA B w rb sb nb ob mf km RR (.returned (.bool ok)) t2)
    go_wp2_with fail
    go_ret
    exact HFIN.out
end Go.Proofs.YtblfmpgdhpbffaaGreatDoor
