import Derived.Test.YtfpeecaaleijcaaGreatDoorOfCl
import Derived.Test.YtfpeecaaleijcaaGreatDoorOfUnitMeasure
set_option maxHeartbeats 32000000
set_option maxRecDepth 20000
namespace Go.Proofs.YtfpeecaaleijcaaGreatDoor
open Go.RowKit
variable {np q ub:Nat}{Pv:Nat->PV}{tv:Value}{u w:World}
theorem TY:(Tryz.prog.info? 70).map (fun i=>(i.zero,i.size,i.bytes))=some (some (.slice none 0 0),1,24):=by kernel_rfl
structure UP(w u:World)(ub np:Nat)(tv:Value):Prop where
 lt:w.heap.size+1<ub
 bel:Below w.heap.size w u
 R:Cl u w.heap.size [Vi 0,Vi 0,Vi 0,.slice none 0 0,.slice none 0 0]
 RF:∀i,u.frozen? ⟨w.heap.size,i,none⟩=false
 U:Cl u ub [Vi 0,Vi 0,Vi 0,tv,.slice (some ⟨w.heap.size+1,0,none⟩) np np]
 UF:∀i,u.frozen? (Va ub i)=false
 Z:A9 u (w.heap.size+1) np (zF (fun _=>0))
theorem UP.kept{v:World}(p:UP w u ub np tv)(hb:Below (ub+1) u v):UP w v ub np tv:=
 have l:=p.lt
 ⟨p.lt,p.bel.trans (hb.mono (by omega)),⟨jI p.R.1 hb.size,fun i hi=>(hb.cell (p:=⟨w.heap.size,i,none⟩) (by show w.heap.size<_;omega)).trans (p.R.2 i hi)⟩,fun i=>(hb.frozen (p:=⟨w.heap.size,i,none⟩) (by show w.heap.size<_;omega)).trans (p.RF i),
  ⟨jI p.U.1 hb.size,fun i hi=>(hb.cell (p:=Va ub i) (by show ub<_;omega)).trans (p.U.2 i hi)⟩,fun i=>(hb.frozen (p:=Va ub i) (by show ub<_;omega)).trans (p.UF i),p.Z.below hb (by omega)⟩
theorem UP.size(p:UP w u ub np tv):ub+1<=u.heap.size:=by have:=p.U.1;omega
theorem Sb(p:UP w u ub np tv):u.cell? ⟨w.heap.size,0,none⟩=some (Vi 0)/\u.cell? ⟨w.heap.size,1,none⟩=some (Vi 0)/\u.cell? ⟨w.heap.size,2,none⟩=some (Vi 0)/\u.cell? ⟨w.heap.size,3,none⟩=some (.slice none 0 0)/\u.cell? ⟨w.heap.size,4,none⟩=some (.slice none 0 0):=⟨p.R.2 0 (by simp),p.R.2 1 (by simp),p.R.2 2 (by simp),p.R.2 3 (by simp),p.R.2 4 (by simp)⟩
theorem Ft.low{t B:Nat}{w':World}(h:Ft t w w')(hB:B<=w.heap.size)(ht:B<=t):Below B w w':=⟨h.os,h.tape,h.output,h.size,fun k hk=>h.block k (by omega) (by omega)⟩
def TR(ub:Nat)(u:World)(Pv:Nat->PV)(tv:Value)(q:Nat):Prop:=
 ∃vs:List Value,u.ownsRow (ub+1) 70 1 tv q vs/\∀(i:Nat)(x:Value),vs[i]?=some x->Dg (Pv i).L ((Pv i).n+1) u (fun b=>ub+1<=b/\tv.ownBlock≠some b) x 0 (Pv i).n
theorem TR.kept{v:World}(h:TR ub u Pv tv q)(hb:∀b,b<u.heap.size->ub+1<=b->v.heap[b]?=u.heap[b]?):TR ub v Pv tv q:=by
 obtain⟨vs,ho,hr⟩:=h;refine⟨vs,⟨ho.1,?_⟩,fun i x hx=>(hr i x hx).kept (fun _ h=>h) (fun b hs hl=>hb b hl hs.1)⟩;rcases ho.2 with h|⟨g,cap,cur,rfl,h1,h2,h3⟩
 ·exact .inl h
 ·have hg:g<u.heap.size:=(jH.1 h2).1
  exact .inr ⟨g,cap,cur,rfl,h1,(hb g hg h1).trans h2,h3⟩
theorem UP.setTree(p:UP w u ub np tv)(v:Value):UP w (u.setCell (Va ub 3) v) ub np v:=by
 have l:=p.lt;have c0:u.cell? (Va ub 0)=some (Vi 0):=p.U.2 0 (by simp);have c1:u.cell? (Va ub 1)=some (Vi 0):=p.U.2 1 (by simp);have c2:u.cell? (Va ub 2)=some (Vi 0):=p.U.2 2 (by simp);have c3:u.cell? (Va ub 3)=some tv:=p.U.2 3 (by simp);have c4:u.cell? (Va ub 4)=some (.slice (some ⟨w.heap.size+1,0,none⟩) np np):=p.U.2 4 (by simp);refine⟨p.lt,p.bel.setCell (p:=Va ub 3) (by show _<=ub;omega) _,⟨by simpa using p.R.1,fun i hi=>(World.cell?_setCell_far _ _ _ _ (show ub≠w.heap.size by omega)).trans (p.R.2 i hi)⟩,fun i=>by simpa using p.RF i,⟨by simpa using p.U.1,fun i hi=>?_⟩,fun i=>by simpa using p.UF i,p.Z.other (a:=Va ub 3) (by show ub≠_;omega) _⟩;match i,hi with
 |0,_=>simp[go_sem,c0]
 |1,_=>simp[go_sem,c1]
 |2,_=>simp[go_sem,c2]
 |3,_=>simp[go_sem,c3]
 |4,_=>simp[go_sem,c4]
theorem TR.more{u2 u3 w4:World}{v' x:Value}{vs:List Value}{obj:Obj}(ho:u3.ownsRow (ub+1) 70 1 tv q vs)(hr:∀(i:Nat)(x:Value),vs[i]?=some x->Dg (Pv i).L ((Pv i).n+1) u3 (fun b=>ub+1<=b/\tv.ownBlock≠some b) x 0 (Pv i).n)
 (ht:∀g,tv.ownBlock=some g->g<u2.heap.size)(h2:ub+1<=u2.heap.size)(hx:Dg (Pv q).L ((Pv q).n+1) u3 (fun b=>u2.heap.size<=b) x 0 (Pv q).n)(O:w4.ownsRow (ub+1) 70 1 v' (q+1) (vs++[x]))(G:(u3.alloc obj).grownBy w4 tv.ownBlock)(ha:v'.ownBlock=tv.ownBlock∨v'.ownBlock=some (u3.heap.size+1)):
 TR ub (w4.setCell (Va ub 3) v') Pv v' (q+1):=by
 have bA:Below u3.heap.size u3 (u3.alloc obj):=Ak;have zA:(u3.alloc obj).heap.size=u3.heap.size+1:=by simp
 have hl:vs.length=q:=by rw[ho.1,Nat.mul_one]
 have hbk:∀b,b≠ub->(w4.setCell (Va ub 3) v').heap[b]?=w4.heap[b]?:=fun b hb=>Below.heap_setCell w4 ⟨ub,3,none⟩ v' b (by simpa using hb)
 have hlow:∀b,b<u3.heap.size->ub+1<=b->tv.ownBlock≠some b->(w4.setCell (Va ub 3) v').heap[b]?=u3.heap[b]?:=fun b h1 h2 hn=>(hbk b (by omega)).trans ((G.block b (by omega) (fun e=>hn e.symm)).trans (bA.block b h1))
 refine⟨vs++[x],⟨O.1,?_⟩,fun i y hy=>?_⟩
 ·rcases O.2 with h|⟨g,cap,cur,rfl,h1,h2,h3⟩
  ·exact .inl h
  ·exact .inr ⟨g,cap,cur,rfl,h1,(hbk g (by omega)).trans h2,h3⟩
 ·by_cases e:i<q
  ·rw[List.getElem?_append_left (by omega)]at hy
   refine(hr i y hy).kept2 (fun b⟨h1,h2⟩hb=>⟨h1,fun e'=>?_⟩) (fun b⟨h1,h2⟩hb=>hlow b hb h1 h2);rcases ha with e2|e2
   ·exact h2 (e2▸e')
   ·rw[e2]at e';have:=Option.some.inj e';omega
  ·have ei:i=q:=by
    have:=(List.getElem?_eq_some_iff.1 hy).1;simp at this;omega
   subst ei;rw[List.getElem?_append_right (by omega),hl]at hy;simp at hy;subst hy;refine hx.kept2 (fun b h1 hb=>⟨by omega,fun e'=>?_⟩) (fun b h1 hb=>hlow b hb (by omega) (fun e'=>by have:=ht b e';omega));rcases ha with e2|e2
   ·rw[e2]at e';have:=ht b e';omega
   ·rw[e2]at e';have:=Option.some.inj e';omega
def gL(w w':World)(Pv:Nat->PV)(np:Nat)(tv zv:Value):Prop:=
 ∃g cz zb:Nat,tv=Vs g np cz/\zv=Vs zb np np/\w.heap.size<=g/\w.heap.size<=zb/\g≠zb/\A9 w' zb np (zF (pz Pv np np))/\∃vs:Nat->Value,At w' g 0 np vs/\∀i,i<np->Dg (Pv i).L ((Pv i).n+1) w' (fun b=>w.heap.size<=b/\b≠zb) (vs i) 0 (Pv i).n
theorem gL.of{u1 w':World}{g cz:Nat}{vs:Nat->Value}(ul:w.heap.size+1<ub)(gl:ub+1<=g)(AZ:A9 u1 (w.heap.size+1) q (zF (pz Pv q q)))(AG:At u1 g 0 q vs)(RG:∀i,i<q->Dg (Pv i).L ((Pv i).n+1) u1 (fun b=>ub+1<=b) (vs i) 0 (Pv i).n)(f:Ft w.heap.size u1 w'):
 gL w w' Pv q (Vs g q cz) (.slice (some ⟨w.heap.size+1,0,none⟩) q q):=
 ⟨g,cz,w.heap.size+1,rfl,rfl,by omega,by omega,by omega,f.arr AZ (by omega),vs,⟨jI AG.1 f.size,fun i hi=>(f.cell AG.1 (by omega)).trans (AG.2 i hi)⟩,fun i hi=>(RG i hi).kept (fun b h=>⟨by omega,by omega⟩) (fun b h hl=>f.block b hl (by omega))⟩
def iq(Pv:Nat->PV)(np:Nat)(w:World)(res:Int×Int×Int)(e:Ending)(w':World):Prop:=
 ∃(aot:Option Addr)(kt ct:Nat)(aoz:Option Addr)(kz cz:Nat),e=.returned (.agg #[Vi res.1,Vi res.2.1,Vi res.2.2,.slice aot kt ct,.slice aoz kz cz])/\Below w.heap.size w w'/\(res.1=0->gL w w' Pv np (.slice aot kt ct) (.slice aoz kz cz))
theorem Ik (bp np cap : Nat) (Pv : Nat -> PV) (blk : Nat -> Nat) (w : World) (ln : np <= 1048576) (lb : ∀ i, i < np -> (Pv i).n <= 1048576) (h : TP w bp np Pv blk) :
 Calls Tryz.prog 16 #[Vs bp np cap] w fun e w' => iq Pv np w (Bz Pv np) e w' := by
 have H := hxy h;have LB := hxy lb;have lbp := h.r.lt;clear h lb;obtain ⟨res, hres⟩ := Ae (Bz Pv np);rw [hres];have HR := hxy hres;clear hres;go_enter Tryz.func16, Tryz.ntmps16;by_cases hn : np < 1 ∨ 20 < np
 ·have HN := hxy hn
  obtain rfl : (1, 0, 0) = res := by rw [<- HR.out, Bz, if_pos HN.out]
  by_cases h1 : np < 1
  ·have e1 : decide ((np : Int) < 1) = true := by simp; omega
   clear hn;go_wp2;refine bodyPost_ret (v := .agg #[Vi 1, Vi 0, Vi 0, .slice none 0 0, .slice none 0 0]) (by simp [results, Tryz.results16, go_sem, *]) rfl ⟨_, _, _, _, _, _, rfl, ?_, fun h => absurd h (by decide)⟩;exact Ak
  ·have e1 : decide ((np : Int) < 1) = false := by simp; omega
   have e2 : decide ((20 : Int) < np) = true := by simp; omega
   clear hn;go_wp2;refine bodyPost_ret (v := .agg #[Vi 1, Vi 0, Vi 0, .slice none 0 0, .slice none 0 0]) (by simp [results, Tryz.results16, go_sem, *]) rfl ⟨_, _, _, _, _, _, rfl, ?_, fun h => absurd h (by decide)⟩;exact Ak
 have HN := hxy hn;have n1 : 1 <= np := by omega
 have n20 : np <= 20 := by omega
 have e1 : decide ((np : Int) < 1) = false := by simp; omega
 have e2 : decide ((20 : Int) < np) = false := by simp; omega
 clear hn;obtain ⟨i0, hi, hz0, hz1, hz2⟩ := info_parts Si;have HI0 : Hid (_ /\ _ /\ _ /\ _) := ⟨hi, hz0, hz1, hz2⟩
 clear hi hz0 hz1 hz2;go_wp2_with (first | (at_make; refine wpList_make_full _ rfl _ _ 55 rfl (w.heap.size + 1) 2 i0 _ 1 Tryz.underlying55 HI0.out.1 HI0.out.2.1 HI0.out.2.2.1 .i64 .i64 _ _ np rfl rfl ?c1 ?c2 ?c3 ?c4 ?c5 ?_) | go_in)
 case c1 => rfl
 case c2 => rfl
 case c3 => rw [HI0.out.2.2.2]; omega
 case c4 => unfold maxLen; omega
 case c5 => simp
 intro w1 hown hgrow;have hb1 : Below (w.heap.size + 1) (w.alloc (.cells #[Vi 0, Vi 0, Vi 0, .slice none 0 0, .slice none 0 0] 57)) w1 := (Below.refl _ _).grown hgrow (by simp) (by intro k hk; cases hk);have hz1 : A9 w1 (w.heap.size + 1) np (zF (fun _ => 0)) := by
  have := A9.made (w := w.alloc (.cells #[Vi 0, Vi 0, Vi 0, .slice none 0 0, .slice none 0 0] 57)) (z := zF (fun _ => 0)) (by simpa using hown) fun i hi => by rw [ZH _ _ _ (show i < np by omega)]; exact congrArg some (show (#[Vi 0] : Array Value)[i % 1]! = _ by rw [Nat.mod_one]; rfl)
  rw [Nat.mul_one] at this;simpa using this
 have hw1 := hz1.lt;have Q1 : Hid (Below w.heap.size w w1 /\ Cl w1 w.heap.size [Vi 0, Vi 0, Vi 0, .slice none 0 0, .slice none 0 0] /\ (∀ i, w1.frozen? ⟨w.heap.size, i, none⟩ = false) /\ A9 w1 (w.heap.size + 1) np (zF (fun _ => 0))) := ⟨(Ak).trans (hb1.mono (by omega)), (Cl.new (w := w) (vs := #[Vi 0, Vi 0, Vi 0, .slice none 0 0, .slice none 0 0])).below (hb1.mono (by simp)), fun i => (hb1.frozen (p := ⟨w.heap.size, i, none⟩) (by simp)).trans (by simp [go_sem]), hz1⟩
 clear hown hgrow hb1 hz1 HI0;go_upto_region 5 with fail;clear e1 e2;obtain ⟨u, hu, hp⟩ : ∃ x, w1.alloc (.cells #[Vi 0, Vi 0, Vi 0, .slice none 0 0, .slice (some ⟨w.heap.size + 1, 0, none⟩) np np] 57) = x /\ UP w x w1.heap.size np (.slice none 0 0) :=
  ⟨_, rfl, hw1, Q1.out.1.alloc (by omega) _, Q1.out.2.1.below Ak, fun i => (((Below.refl w1.heap.size w1).alloc jG _).frozen (p := ⟨w.heap.size, i, none⟩) (by show w.heap.size < _; omega)).trans (Q1.out.2.2.1 i), Cl.new, fun i => by simp [go_sem], Q1.out.2.2.2.below ((Below.refl w1.heap.size w1).alloc jG _) hw1⟩
 rw [hu];have P0 := hxy hp;have T0 : Hid (TR w1.heap.size u Pv (.slice none 0 0) 0) := ⟨[], ⟨rfl, .inl ⟨rfl, rfl⟩⟩, fun i x h => by simp at h⟩
 clear hu hp Q1;generalize w1.heap.size = ub at *;have ul : w.heap.size + 1 < ub := P0.out.lt;obtain ⟨iB, gB, gB0, gB1, gB2⟩ := info_parts TY;have HIB : Hid (_ /\ _ /\ _ /\ _) := ⟨gB, gB0, gB1, gB2⟩
 clear gB gB0 gB1 gB2;go_loopw [25] (fun iv wr => ∃ (q : Nat) (tv : Value), q <= np /\ iv = Vi (q : Int) /\ UP w wr ub np tv /\ TR ub wr Pv tv q /\ Bt Pv np (np - q) q = Bt Pv np np 0) (fun iv _ => np - (intOf iv).toNat)
 case atStart => exact ⟨0, _, Nat.zero_le _, rfl, P0.out, T0.out, rfl⟩
 case round =>
  obtain ⟨q, tv, hq, rfl, hu, htr, hf⟩ := hrel;have P1 := hxy hu;have T1 := hxy htr;have HF := hxy hf;clear hu htr hf P0 T0;by_cases hlt : q < np
  ·have hlt' : (q : Int) < (np : Int) := by omega
   have g0 : wr.cell? (Va bp q) = some (.slice (some ⟨blk q, 0, none⟩) (Pv q).n (Pv q).c) := (H.out.r.below P1.out.bel lbp).cell hlt;have lnq := LB.out q hlt;have wz := P1.out.size;by_cases h5 : 500 < (Pv q).n
   ·have e5 : decide ((500 : Int) < ((Pv q).n : Int)) = true := by simp; omega
    obtain ⟨r0, r1, r2, r3, r4⟩ := Sb P1.out;have rf := P1.out.RF;have rl := P1.out.R.1;have HX : Hid (Bt Pv np np 0 = (1, (q : Int), 0)) := (by rw [<- HF.out, show np - q = (np - q - 1) + 1 by omega]; show (if 500 < (Pv q).n then _ else _) = _; rw [if_pos h5] : Bt Pv np np 0 = (1, (q : Int), 0))
    obtain rfl : (1, (q : Int), 0) = res := by rw [<- HR.out]; exact (Jy HN.out HX.out (by simp)).symm
    go_wp2;refine bodyPost_ret (v := .agg #[Vi 1, Vi (q : Int), Vi 0, .slice none 0 0, .slice none 0 0]) (by simp [results, Tryz.results16, go_sem, *]) rfl ⟨_, _, _, _, _, _, rfl, ?_, fun h => absurd h (by simp)⟩;refine Below.alloc ?_ (by simpa using P1.out.bel.size) _
    (repeat refine Below.setCell ?_ (by simp) _)
    exact P1.out.bel
   ·have e5 : decide ((500 : Int) < ((Pv q).n : Int)) = false := by simp; omega
    have H5 := hxy h5;have h5' : (Pv q).n <= 500 := by omega
    go_wp2_with fail;clear h5 e5 g0;obtain ⟨u2, hu2, hb2, ht2⟩ : ∃ x, (wr.alloc (.cells #[.slice (some ⟨blk q, 0, none⟩) (Pv q).n (Pv q).c] 38)).alloc (.cells #[.slice (some ⟨blk q, 0, none⟩) (Pv q).n (Pv q).c, Vi (q : Int), Vi (np : Int), Vi 15, Vi 0, Vi 0] 100) = x /\ Below wr.heap.size wr x /\ IZ x (wr.heap.size + 1) (blk q) (Pv q).n (Pv q).c (q : Int) (np : Int) 15 0 0 := ⟨_, rfl, (Ak).alloc (by simp) _, by
     have := Cl.new (w := wr.alloc (.cells #[.slice (some ⟨blk q, 0, none⟩) (Pv q).n (Pv q).c] 38)) (vs := #[.slice (some ⟨blk q, 0, none⟩) (Pv q).n (Pv q).c, Vi (q : Int), Vi (np : Int), Vi 15, Vi 0, Vi 0]) (t := 100);rw [World.size_alloc] at this
     exact ⟨this, fun i => by simp [go_sem]⟩⟩
    rw [hu2];have lq := (H.out.b q hlt).lt;have bw := P1.out.bel.size;have hc := SI (Pv q).L (wr.heap.size + 1) (blk q) (Pv q).n (Pv q).c (q : Int) (np : Int) 15 (by omega) lnq (Pv q).n 0 (Pv q).n 0 (by omega) (Nat.zero_le _) jG (by omega) (by omega) u2 (((H.out.b q hlt).below P1.out.bel lq).below hb2 (by omega)) ht2;rw [show ((Pv q).n : Int) - ((0 : Nat) : Int) = ((Pv q).n : Int) by omega, show (15 : Int) + 1 = 16 from rfl] at hc;obtain ⟨c, hcc⟩ := Ae (CZ (Pv q).L (q : Int) (np : Int) 16 0 (Pv q).n 0);rw [hcc] at hc;have HC := hxy hcc;clear hcc hu2;refine hc.mono ?_;rintro e u3 ⟨ao3, k3, c3, rfl, hf3, ht3, hr3⟩;have z2 : wr.heap.size + 1 < u2.heap.size := ht2.C.1;have z3 := hf3.size;have P3 : Hid (UP w u3 ub np tv) := P1.out.kept ((hb2.mono wz).trans (hf3.low (by omega) (by omega)));have T3 : Hid (TR ub u3 Pv tv q) := T1.out.kept (fun b h1 h2 => (hf3.block b (by omega) (by omega)).trans (hb2.block b h1));have TM := hxy ht3;have RR := hxy hr3;have ROW : Hid (∀ g, tv.ownBlock = some g -> g < u2.heap.size) := fun g hg => by
     obtain ⟨vs, ho, _⟩ := T1.out;have := (ho.lt g hg).2;omega
    clear hc hf3 ht3 hr3 hb2 ht2 P1 T1;have tl := TM.out.C.1;by_cases z : c.1 = 0
    ·have ez : (c.1 != 0) = false := by simp [z]
     have HZ := hxy z;have q4 : u3.cell? ⟨wr.heap.size + 1, 4, none⟩ = some (Vi c.1) := TM.out.C.2 4 (by simp);clear z;obtain ⟨vs, ho, hr⟩ := T3.out;obtain ⟨ao7, k7, c7, rfl⟩ := Cw ho;have OO := hxy ho;have RO := hxy hr;have t3 : u3.cell? (Va ub 3) = some (.slice ao7 k7 c7) := P3.out.U.2 3 (by simp);have ul3 := P3.out.U.1;clear ho hr;go_wp2_with (first | (at_builtin; refine wpList_append_own_at _ rfl _ _ 54 rfl (ub + 1) 70 iB (.slice none 0 0) 1 24 Tryz.underlying54 HIB.out.1 HIB.out.2.1 HIB.out.2.2.1 HIB.out.2.2.2 rfl (by decide) (.slice ao7 k7 c7) q vs rfl (Gb OO.out Ak) ⟨u3.heap.size, 0, none⟩ 1 1 [.slice ao3 k3 c3] rfl rfl (cell_one_new _ _ _) ?c2 ?c3 ?c4 ?c5 ?_) | go_in)
     case c2 => intro x hx; simp at hx; subst hx; rfl
     case c3 => unfold maxLen; omega
     case c4 => omega
     case c5 => simp; omega
     intro v' w4 hown hgrow _ hat;have B4 : Below (ub + 1) u3 w4 := ((Below.refl (ub + 1) u3).alloc (by omega) _).grown hgrow (by simp; omega) (fun k hk => (OO.out.lt k hk).1);have P4 := hxy (P3.out.kept B4);have T4 : Hid (TR ub (w4.setCell (Va ub 3) v') Pv v' (q + 1)) := TR.more OO.out RO.out ROW.out (by omega) (RR.out HZ.out) hown hgrow hat;have P5 := hxy (P4.out.setTree v');have t3' : w4.cell? (Va ub 3) = some (.slice ao7 k7 c7) := P4.out.U.2 3 (by simp);have ul4 := P4.out.U.1;have uf4 := P4.out.UF;obtain ⟨ao8, k8, c8, rfl⟩ := Cw hown;clear hown hgrow hat B4 q4 t3 ul3;go_wp2;go_roundw
     case rel => exact ⟨q + 1, _, by omega, by go_num, P5.out, T4.out, by rw [<- HF.out, show np - q = (np - (q + 1)) + 1 by omega, KH H5.out (by rw [HC.out]; simpa using HZ.out)]⟩
     case measure => simp [intOf]; omega
    ·have ez : (c.1 != 0) = true := by simp [z]
     have HX : Hid (Bt Pv np np 0 = (c.1, (q : Int), c.2)) := (by rw [<- HF.out, show np - q = (np - q - 1) + 1 by omega]; show (if 500 < (Pv q).n then _ else _) = _; rw [if_neg H5.out, HC.out, if_pos z] : Bt Pv np np 0 = (c.1, (q : Int), c.2))
     obtain rfl : (c.1, (q : Int), c.2) = res := by rw [<- HR.out]; exact (Jy HN.out HX.out z).symm
     have HZ := hxy z;have q4 : u3.cell? ⟨wr.heap.size + 1, 4, none⟩ = some (Vi c.1) := TM.out.C.2 4 (by simp);have q5 : u3.cell? ⟨wr.heap.size + 1, 5, none⟩ = some (Vi c.2) := (TM.out.C.2 5 (by simp)).trans (by rw [if_neg z]; rfl);clear z;go_upto_region 13 with fail;have k4 : ∀ w', Below u3.heap.size u3 w' -> w'.cell? ⟨wr.heap.size + 1, 4, none⟩ = some (Vi c.1) := fun w' h => (h.cell (p := ⟨wr.heap.size + 1, 4, none⟩) tl).trans q4
     have k5 : ∀ w', Below u3.heap.size u3 w' -> w'.cell? ⟨wr.heap.size + 1, 5, none⟩ = some (Vi c.2) := fun w' h => (h.cell (p := ⟨wr.heap.size + 1, 5, none⟩) tl).trans q5
     refine BF (T := fun w' => Below u3.heap.size u3 w') (s := 11) (by kernel_rfl) (Below.refl _ _).drew (fun hHeld => ?_);refine AJ 0 rfl ?_;refine AJ 1 rfl ?_;refine AJ 2 rfl ?_;refine AJ 3 rfl ?_;refine AJ 4 rfl ?_;refine AJ 5 rfl ?_;refine AJ 6 rfl ?_;refine AJ 7 rfl ?_;refine AJ 8 rfl ?_;refine AJ 9 rfl ?_;refine AJ 10 rfl ?_;have PD : Hid (UP w u3.drew ub np tv) := P3.out.kept ((Below.refl _ _).drew);generalize u3.drew = u4 at *;obtain ⟨r0, r1, r2, r3, r4⟩ := Sb PD.out;have rf := PD.out.RF;have rl := PD.out.R.1;refine A7 rfl (by kernel_rfl) (by kernel_rfl) (fun KK hK => ?_);go_simp;refine hK.out _ _ ?_;clear hK KK hHeld k4 k5 q4 q5;go_wp2;refine bodyPost_ret (v := .agg #[Vi c.1, Vi (q : Int), Vi c.2, .slice none 0 0, .slice none 0 0]) (by simp [results, Tryz.results16, go_sem, *]) rfl ⟨_, _, _, _, _, _, rfl, ?_, fun h => absurd h HZ.out⟩
     (repeat refine Below.setCell ?_ (by simp) _)
     exact PD.out.bel
  ·obtain rfl : q = np := by omega
   have hlt' : ¬ (q : Int) < (q : Int) := by omega
   have HG : Hid (Bt Pv q q 0 = (0, 0, 0)) := (by rw [<- HF.out, Nat.sub_self]; rfl : Bt Pv q q 0 = (0, 0, 0))
   clear hlt hq HF;obtain ⟨vs, ho, hr⟩ := T1.out;obtain ⟨g, cz, rfl⟩ := Hu ho (by omega);have hgl := ho.lt g rfl;have gl : ub + 1 <= g := hgl.1;have AT : Hid (At wr g 0 q (fun i => vs.getD i undef)) := ⟨hgl.2, fun i hi => by
    rw [Nat.zero_add, ho.cellAt i (by omega)];show vs[i]? = some (vs.getD i undef);have : i < vs.length := by rw [ho.1]; omega
    simp [this]⟩
   have RP : Hid (∀ i, i < q -> Dg (Pv i).L ((Pv i).n + 1) wr (fun b => ub + 1 <= b /\ (Vs g q cz).ownBlock ≠ some b) (vs.getD i undef) 0 (Pv i).n) := fun i hi => hr i _ (by
    have : i < vs.length := by rw [ho.1]; omega
    simp [this])
   clear ho hr hgl T1;go_wp2_with fail;refine (RI ub (w.heap.size + 1) g q cz q (Vi 0) (Vi 0) (Vi 0) Pv (fun i => vs.getD i undef) _ wr n20 P1.out.U AT.out P1.out.Z RP.out (fun b hb => by omega) (by omega) (by omega) (fun i hi => by
    obtain ⟨h1, h2⟩ := Jm q 0 (by rw [HG.out]) i (Nat.zero_le _) (by omega)
    exact ⟨by omega, h2⟩)).mono ?_
   rintro e u1 ⟨rfl, hf, ha⟩;have ll := P1.out.bel.size;have wl := P1.out.size;have BE : Hid (Below w.heap.size w u1) := P1.out.bel.trans (hf.low (by omega) (by omega));have CR : Hid (Cl u1 w.heap.size [Vi 0, Vi 0, Vi 0, .slice none 0 0, .slice none 0 0]) := hf.cl P1.out.R (by omega);have rf : ∀ i, u1.frozen? ⟨w.heap.size, i, none⟩ = false := fun i => (hf.frozen P1.out.R.1 (by omega)).trans (P1.out.RF i)
   have CU : Hid (Cl u1 ub [Vi 0, Vi 0, Vi 0, Vs g q cz, .slice (some ⟨w.heap.size + 1, 0, none⟩) q q]) := hf.cl P1.out.U (by omega);have uf : ∀ i, u1.frozen? (Va ub i) = false := fun i => (hf.frozen P1.out.U.1 (by omega)).trans (P1.out.UF i)
   have AZ := hxy ha;have AG : Hid (At u1 g 0 q (fun i => vs.getD i undef)) := ⟨jI AT.out.1 hf.size, fun i hi => (hf.cell AT.out.1 (by omega)).trans (AT.out.2 i hi)⟩
   have RG : Hid (∀ i, i < q -> Dg (Pv i).L ((Pv i).n + 1) u1 (fun b => ub + 1 <= b) (vs.getD i undef) 0 (Pv i).n) := fun i hi => (RP.out i hi).kept (fun b h => h.1) (fun b h hl => hf.block b hl (by omega))
   clear hf ha P1 AT RP;obtain ⟨z0, hz0⟩ := Ae (pz Pv q q 0);have a0 : u1.cell? ⟨w.heap.size + 1, 0, none⟩ = some (Vi z0) := hz0 ▸ AZ.out.cell (i := 0) (by omega);have HZ0 : Hid (min z0 2000 = min (zs Pv q q 0) 2000) := (by rw [<- hz0]; exact bC Pv q q 0 : min z0 2000 = min (zs Pv q q 0) 2000)
   clear hz0;have al := AZ.out.lt;have ul1 := CU.out.1;have rl := CR.out.1;have r0 : u1.cell? ⟨w.heap.size, 0, none⟩ = some (Vi 0) := CR.out.2 0 (by simp);have r1 : u1.cell? ⟨w.heap.size, 1, none⟩ = some (Vi 0) := CR.out.2 1 (by simp);have r2 : u1.cell? ⟨w.heap.size, 2, none⟩ = some (Vi 0) := CR.out.2 2 (by simp);have r3 : u1.cell? ⟨w.heap.size, 3, none⟩ = some (.slice none 0 0) := CR.out.2 3 (by simp);have r4 : u1.cell? ⟨w.heap.size, 4, none⟩ = some (.slice none 0 0) := CR.out.2 4 (by simp);have c0 : u1.cell? (Va ub 0) = some (Vi 0) := CU.out.2 0 (by simp);have c1 : u1.cell? (Va ub 1) = some (Vi 0) := CU.out.2 1 (by simp);have c2 : u1.cell? (Va ub 2) = some (Vi 0) := CU.out.2 2 (by simp);have c3 : u1.cell? (Va ub 3) = some (Vs g q cz) := CU.out.2 3 (by simp);have c4 : u1.cell? (Va ub 4) = some (.slice (some ⟨w.heap.size + 1, 0, none⟩) q q) := CU.out.2 4 (by simp);have hq0 : (0 : Int) < (q : Int) := by omega
   by_cases hz : 2000 <= z0
   ·obtain rfl : (6, 0, 0) = res := by
     have := HZ0.out;rw [<- HR.out, Bz, if_neg HN.out, HG.out, if_neg (by decide), if_pos (by omega)]
    go_wp2;refine bodyPost_ret (v := .agg #[Vi 6, Vi 0, Vi 0, Vs g q cz, .slice (some ⟨w.heap.size + 1, 0, none⟩) q q]) (by simp [results, Tryz.results16, go_sem, *]) rfl ⟨_, _, _, _, _, _, rfl, ?_, fun h => absurd h (by decide)⟩
    (repeat refine Below.setCell ?_ (by simp; try omega) _)
    exact BE.out
   ·obtain rfl : (0, 0, 0) = res := by
     have := HZ0.out;rw [<- HR.out, Bz, if_neg HN.out, HG.out, if_neg (by decide), if_neg (by omega)]
    go_wp2;refine bodyPost_ret (v := .agg #[Vi 0, Vi 0, Vi 0, Vs g q cz, .slice (some ⟨w.heap.size + 1, 0, none⟩) q q]) (by simp [results, Tryz.results16, go_sem, *]) rfl ⟨_, _, _, _, _, _, rfl, ?_, fun _ => ?_⟩
    ·(repeat refine Below.setCell ?_ (by simp) _)
     exact BE.out
    ·refine gL.of ul gl AZ.out AG.out RG.out ?_
     (repeat refine Ft.set ?_ _ _)
     exact Ft.refl _ _
end Go.Proofs.YtfpeecaaleijcaaGreatDoor
