import Derived.Test.YtplnpgohdgialaaOfUnitMeasure
import Derived.Test.YtplnpgohdgialaaFu8c
set_option maxHeartbeats 32000000
set_option maxRecDepth 20000
namespace Go.Proofs.Ytplnpgohdgialaa
open Go.RowKit
theorem info_block:(Try.prog.info? 62).map (fun i=>(i.zero,i.size,i.bytes))=some (some (.slice none 0 0),1,24):=by kernel_rfl
structure UP(w u:World)(ub np:Nat)(tv:Value):Prop where
 lt:w.heap.size+1<ub
 bel:Below w.heap.size w u
 R:Cl u w.heap.size [.int .i64 0,.int .i64 0,.int .i64 0,.slice none 0 0,.slice none 0 0]
 RF:∀i,u.frozen? ⟨w.heap.size,i,none⟩=false
 U:Cl u (ub) [.int .i64 0,.int .i64 0,.int .i64 0,tv,.slice (some ⟨w.heap.size+1,0,none⟩) np np]
 UF:∀i,u.frozen? ⟨ub,i,none⟩=false
 Z:Arr u (w.heap.size+1) np (zF (fun _=>0))
theorem UP.kept{w u v:World}{ub np:Nat}{tv:Value}(p:UP w u ub np tv)(hb:Below (ub+1) u v):UP w v ub np tv:=
 have l:=p.lt
 ⟨p.lt,p.bel.trans (hb.mono (by omega)),⟨Nat.lt_of_lt_of_le p.R.1 hb.size,fun i hi=>(hb.cell (p:=⟨w.heap.size,i,none⟩) (by show w.heap.size<_;omega)).trans (p.R.2 i hi)⟩,fun i=>(hb.frozen (p:=⟨w.heap.size,i,none⟩) (by show w.heap.size<_;omega)).trans (p.RF i),
  ⟨Nat.lt_of_lt_of_le p.U.1 hb.size,fun i hi=>(hb.cell (p:=⟨ub,i,none⟩) (by show ub<_;omega)).trans (p.U.2 i hi)⟩,fun i=>(hb.frozen (p:=⟨ub,i,none⟩) (by show ub<_;omega)).trans (p.UF i),p.Z.below hb (by omega)⟩
theorem UP.size{w u:World}{ub np:Nat}{tv:Value}(p:UP w u ub np tv):ub+1<=u.heap.size:=by have:=p.U.1;omega
theorem up_cells{w u:World}{ub np:Nat}{tv:Value}(p:UP w u ub np tv):u.cell? ⟨w.heap.size,0,none⟩=some (.int .i64 0)/\u.cell? ⟨w.heap.size,1,none⟩=some (.int .i64 0)/\u.cell? ⟨w.heap.size,2,none⟩=some (.int .i64 0)/\u.cell? ⟨w.heap.size,3,none⟩=some (.slice none 0 0)/\u.cell? ⟨w.heap.size,4,none⟩=some (.slice none 0 0):=⟨p.R.2 0 (by simp),p.R.2 1 (by simp),p.R.2 2 (by simp),p.R.2 3 (by simp),p.R.2 4 (by simp)⟩
theorem Ft.low{t B:Nat}{w w':World}(h:Ft t w w')(hB:B<=w.heap.size)(ht:B<=t):Below B w w':=⟨h.os,h.tape,h.output,h.size,fun k hk=>h.block k (by omega) (by omega)⟩
def TR(ub:Nat)(u:World)(Pv:Nat->PV)(tv:Value)(q:Nat):Prop:=
 ∃vs:List Value,u.ownsRow (ub+1) 62 1 tv q vs/\∀(i:Nat)(x:Value),vs[i]?=some x->RepN (Pv i).L ((Pv i).n+1) u (fun b=>ub+1<=b/\tv.ownBlock≠some b) x 0 (Pv i).n
theorem TR.kept{ub:Nat}{u v:World}{Pv:Nat->PV}{tv:Value}{q:Nat}(h:TR ub u Pv tv q)(hb:∀b,b<u.heap.size->ub+1<=b->v.heap[b]?=u.heap[b]?):TR ub v Pv tv q:=by
 obtain⟨vs,ho,hr⟩:=h;refine⟨vs,⟨ho.1,?_⟩,fun i x hx=>(hr i x hx).kept (fun _ h=>h) (fun b hs hl=>hb b hl hs.1)⟩;rcases ho.2 with h|⟨g,cap,cur,rfl,h1,h2,h3⟩
 ·exact .inl h
 ·have hg:g<u.heap.size:=(Array.getElem?_eq_some_iff.1 h2).1
  exact .inr ⟨g,cap,cur,rfl,h1,(hb g hg h1).trans h2,h3⟩
theorem UP.setTree{w u:World}{ub np:Nat}{tv:Value}(p:UP w u ub np tv)(v:Value):UP w (u.setCell ⟨ub,3,none⟩ v) ub np v:=by
 have l:=p.lt;have c0:u.cell? ⟨ub,0,none⟩=some (.int .i64 0):=p.U.2 0 (by simp);have c1:u.cell? ⟨ub,1,none⟩=some (.int .i64 0):=p.U.2 1 (by simp);have c2:u.cell? ⟨ub,2,none⟩=some (.int .i64 0):=p.U.2 2 (by simp);have c3:u.cell? ⟨ub,3,none⟩=some tv:=p.U.2 3 (by simp);have c4:u.cell? ⟨ub,4,none⟩=some (.slice (some ⟨w.heap.size+1,0,none⟩) np np):=p.U.2 4 (by simp);refine⟨p.lt,p.bel.setCell (p:=⟨ub,3,none⟩) (by show _<=ub;omega) _,⟨by simpa using p.R.1,fun i hi=>(World.cell?_setCell_far _ _ _ _ (show ub≠w.heap.size by omega)).trans (p.R.2 i hi)⟩,fun i=>by simpa using p.RF i,⟨by simpa using p.U.1,fun i hi=>?_⟩,fun i=>by simpa using p.UF i,p.Z.other (a:=⟨ub,3,none⟩) (by show ub≠_;omega) _⟩;match i,hi with
 |0,_=>simp[go_sem,c0]
 |1,_=>simp[go_sem,c1]
 |2,_=>simp[go_sem,c2]
 |3,_=>simp[go_sem,c3]
 |4,_=>simp[go_sem,c4]
theorem TR.more{ub:Nat}{u2 u3 w4:World}{Pv:Nat->PV}{tv v' x:Value}{q:Nat}{vs:List Value}{obj:Obj}(ho:u3.ownsRow (ub+1) 62 1 tv q vs)(hr:∀(i:Nat)(x:Value),vs[i]?=some x->RepN (Pv i).L ((Pv i).n+1) u3 (fun b=>ub+1<=b/\tv.ownBlock≠some b) x 0 (Pv i).n)
 (ht:∀g,tv.ownBlock=some g->g<u2.heap.size)(h2:ub+1<=u2.heap.size)(hx:RepN (Pv q).L ((Pv q).n+1) u3 (fun b=>u2.heap.size<=b) x 0 (Pv q).n)(O:w4.ownsRow (ub+1) 62 1 v' (q+1) (vs++[x]))(G:(u3.alloc obj).grownBy w4 tv.ownBlock)(ha:v'.ownBlock=tv.ownBlock∨v'.ownBlock=some (u3.heap.size+1)):
 TR ub (w4.setCell ⟨ub,3,none⟩ v') Pv v' (q+1):=by
 have bA:Below u3.heap.size u3 (u3.alloc obj):=(Below.refl _ _).alloc (Nat.le_refl _) _;have zA:(u3.alloc obj).heap.size=u3.heap.size+1:=by simp
 have hl:vs.length=q:=by rw[ho.1,Nat.mul_one]
 have hbk:∀b,b≠ub->(w4.setCell ⟨ub,3,none⟩ v').heap[b]?=w4.heap[b]?:=fun b hb=>Below.heap_setCell w4 ⟨ub,3,none⟩ v' b (by simpa using hb)
 have hlow:∀b,b<u3.heap.size->ub+1<=b->tv.ownBlock≠some b->(w4.setCell ⟨ub,3,none⟩ v').heap[b]?=u3.heap[b]?:=fun b h1 h2 hn=>(hbk b (by omega)).trans ((G.block b (by omega) (fun e=>hn e.symm)).trans (bA.block b h1))
 refine⟨vs++[x],⟨O.1,?_⟩,fun i y hy=>?_⟩
 ·rcases O.2 with h|⟨g,cap,cur,rfl,h1,h2,h3⟩
  ·exact .inl h
  ·exact .inr ⟨g,cap,cur,rfl,h1,(hbk g (by omega)).trans h2,h3⟩
 ·by_cases e:i<q
  ·rw[List.getElem?_append_left (by omega)]at hy
   refine(hr i y hy).kept2 (fun b⟨h1,h2⟩hb=>⟨h1,fun e'=>?_⟩) (fun b⟨h1,h2⟩hb=>hlow b hb h1 h2);rcases ha with e2|e2
   ·exact h2 (e2▸e')
   ·rw[e2]at e';have:=Option.some.inj e';omega
  ·have ei:i=q:=by
    have:=(List.getElem?_eq_some_iff.1 hy).1;simp at this;omega
   subst ei;rw[List.getElem?_append_right (by omega),hl]at hy;simp at hy;subst hy;refine hx.kept2 (fun b h1 hb=>⟨by omega,fun e'=>?_⟩) (fun b h1 hb=>hlow b hb (by omega) (fun e'=>by have:=ht b e';omega));rcases ha with e2|e2
   ·rw[e2]at e';have:=ht b e';omega
   ·rw[e2]at e';have:=Option.some.inj e';omega
def UOK(w w':World)(Pv:Nat->PV)(np:Nat)(tv zv:Value):Prop:=
 ∃g cz zb:Nat,tv=.slice (some ⟨g,0,none⟩) np cz/\zv=.slice (some ⟨zb,0,none⟩) np np/\w.heap.size<=g/\w.heap.size<=zb/\g≠zb/\Arr w' zb np (zF (pz Pv np np))/\∃vs:Nat->Value,At w' g 0 np vs/\∀i,i<np->RepN (Pv i).L ((Pv i).n+1) w' (fun b=>w.heap.size<=b/\b≠zb) (vs i) 0 (Pv i).n
theorem UOK.of{w u1 w':World}{Pv:Nat->PV}{q g cz ub:Nat}{vs:Nat->Value}(ul:w.heap.size+1<ub)(gl:ub+1<=g)(AZ:Arr u1 (w.heap.size+1) q (zF (pz Pv q q)))(AG:At u1 g 0 q vs)(RG:∀i,i<q->RepN (Pv i).L ((Pv i).n+1) u1 (fun b=>ub+1<=b) (vs i) 0 (Pv i).n)(f:Ft w.heap.size u1 w'):
 UOK w w' Pv q (.slice (some ⟨g,0,none⟩) q cz) (.slice (some ⟨w.heap.size+1,0,none⟩) q q):=
 ⟨g,cz,w.heap.size+1,rfl,rfl,by omega,by omega,by omega,f.arr AZ (by omega),vs,⟨Nat.lt_of_lt_of_le AG.1 f.size,fun i hi=>(f.cell AG.1 (by omega)).trans (AG.2 i hi)⟩,fun i hi=>(RG i hi).kept (fun b h=>⟨by omega,by omega⟩) (fun b h hl=>f.block b hl (by omega))⟩
def CUC(Pv:Nat->PV)(np:Nat)(w:World)(res:Int×Int×Int)(e:Ending)(w':World):Prop:=
 ∃(aot:Option Addr)(kt ct:Nat)(aoz:Option Addr)(kz cz:Nat),e=.returned (.agg #[.int .i64 res.1,.int .i64 res.2.1,.int .i64 res.2.2,.slice aot kt ct,.slice aoz kz cz])/\Below w.heap.size w w'/\(res.1=0->UOK w w' Pv np (.slice aot kt ct) (.slice aoz kz cz))
theorem checkUnit_any (bp np cap : Nat) (Pv : Nat -> PV) (blk : Nat -> Nat) (w : World) (ln : np <= 1048576) (lb : ∀ i, i < np -> (Pv i).n <= 1048576) (h : PCp w bp np Pv blk) :
 Calls Try.prog 19 #[.slice (some ⟨bp, 0, none⟩) np cap] w fun e w' => CUC Pv np w (unitR Pv np) e w' := by
 have H : Hid (PCp w bp np Pv blk) := h;have LB : Hid (∀ i, i < np -> (Pv i).n <= 1048576) := lb;have lbp := h.r.lt;clear h lb;obtain ⟨res, hres⟩ : ∃ x, unitR Pv np = x := ⟨_, rfl⟩
 rw [hres];have HR : Hid (unitR Pv np = res) := hres;clear hres;go_enter Try.func19, Try.ntmps19;by_cases hn : np < 1 ∨ 20 < np
 ·have HN : Hid (np < 1 ∨ 20 < np) := hn
  obtain rfl : (1, 0, 0) = res := by rw [<- HR.out, unitR, if_pos HN.out]
  by_cases h1 : np < 1
  ·have e1 : decide ((np : Int) < 1) = true := by simp; omega
   clear hn;go_wp2;refine bodyPost_ret (v := .agg #[.int .i64 1, .int .i64 0, .int .i64 0, .slice none 0 0, .slice none 0 0]) (by simp [results, Try.results19, go_sem, *]) rfl ⟨_, _, _, _, _, _, rfl, ?_, fun h => absurd h (by decide)⟩;exact (Below.refl _ _).alloc (Nat.le_refl _) _
  ·have e1 : decide ((np : Int) < 1) = false := by simp; omega
   have e2 : decide ((20 : Int) < np) = true := by simp; omega
   clear hn;go_wp2;refine bodyPost_ret (v := .agg #[.int .i64 1, .int .i64 0, .int .i64 0, .slice none 0 0, .slice none 0 0]) (by simp [results, Try.results19, go_sem, *]) rfl ⟨_, _, _, _, _, _, rfl, ?_, fun h => absurd h (by decide)⟩;exact (Below.refl _ _).alloc (Nat.le_refl _) _
 have HN : Hid (¬ (np < 1 ∨ 20 < np)) := hn;have n1 : 1 <= np := by omega
 have n20 : np <= 20 := by omega
 have e1 : decide ((np : Int) < 1) = false := by simp; omega
 have e2 : decide ((20 : Int) < np) = false := by simp; omega
 clear hn;obtain ⟨i0, hi, hz0, hz1, hz2⟩ := info_parts info_i64;have HI0 : Hid (_ /\ _ /\ _ /\ _) := ⟨hi, hz0, hz1, hz2⟩
 clear hi hz0 hz1 hz2;go_wp2_with (first | (at_make; refine wpList_make_full _ rfl _ _ 53 rfl (w.heap.size + 1) 2 i0 _ 1 Try.underlying53 HI0.out.1 HI0.out.2.1 HI0.out.2.2.1 .i64 .i64 _ _ np rfl rfl ?c1 ?c2 ?c3 ?c4 ?c5 ?_) | go_in)
 case c1 => rfl
 case c2 => rfl
 case c3 => rw [HI0.out.2.2.2]; omega
 case c4 => unfold maxLen; omega
 case c5 => simp
 intro w1 hown hgrow;have hb1 : Below (w.heap.size + 1) (w.alloc (.cells #[.int .i64 0, .int .i64 0, .int .i64 0, .slice none 0 0, .slice none 0 0] 57)) w1 := (Below.refl _ _).grown hgrow (by simp) (by intro k hk; cases hk);have hz1 : Arr w1 (w.heap.size + 1) np (zF (fun _ => 0)) := by
  have := Arr.made (w := w.alloc (.cells #[.int .i64 0, .int .i64 0, .int .i64 0, .slice none 0 0, .slice none 0 0] 57)) (z := zF (fun _ => 0)) (by simpa using hown) fun i hi => by rw [made_get _ _ _ (show i < np by omega)]; exact congrArg some (show (#[Value.int .i64 0] : Array Value)[i % 1]! = _ by rw [Nat.mod_one]; rfl)
  rw [Nat.mul_one] at this;simpa using this
 have hw1 := hz1.lt;have Q1 : Hid (Below w.heap.size w w1 /\ Cl w1 w.heap.size [.int .i64 0, .int .i64 0, .int .i64 0, .slice none 0 0, .slice none 0 0] /\ (∀ i, w1.frozen? ⟨w.heap.size, i, none⟩ = false) /\ Arr w1 (w.heap.size + 1) np (zF (fun _ => 0))) := ⟨((Below.refl _ _).alloc (Nat.le_refl _) _).trans (hb1.mono (by omega)), (Cl.new (w := w) (vs := #[.int .i64 0, .int .i64 0, .int .i64 0, .slice none 0 0, .slice none 0 0])).below (hb1.mono (by simp)), fun i => (hb1.frozen (p := ⟨w.heap.size, i, none⟩) (by simp)).trans (by simp [go_sem]), hz1⟩
 clear hown hgrow hb1 hz1 HI0;go_upto_region 5 with fail;clear e1 e2;obtain ⟨u, hu, hp⟩ : ∃ x, w1.alloc (.cells #[.int .i64 0, .int .i64 0, .int .i64 0, .slice none 0 0, .slice (some ⟨w.heap.size + 1, 0, none⟩) np np] 57) = x /\ UP w x w1.heap.size np (.slice none 0 0) :=
  ⟨_, rfl, hw1, Q1.out.1.alloc (by omega) _, Q1.out.2.1.below ((Below.refl _ _).alloc (Nat.le_refl _) _), fun i => (((Below.refl w1.heap.size w1).alloc (Nat.le_refl _) _).frozen (p := ⟨w.heap.size, i, none⟩) (by show w.heap.size < _; omega)).trans (Q1.out.2.2.1 i), Cl.new, fun i => by simp [go_sem], Q1.out.2.2.2.below ((Below.refl w1.heap.size w1).alloc (Nat.le_refl _) _) hw1⟩
 rw [hu];have P0 : Hid (UP w u w1.heap.size np (.slice none 0 0)) := hp;have T0 : Hid (TR w1.heap.size u Pv (.slice none 0 0) 0) := ⟨[], ⟨rfl, .inl ⟨rfl, rfl⟩⟩, fun i x h => by simp at h⟩
 clear hu hp Q1;generalize w1.heap.size = ub at *;have ul : w.heap.size + 1 < ub := P0.out.lt;obtain ⟨iB, gB, gB0, gB1, gB2⟩ := info_parts info_block;have HIB : Hid (_ /\ _ /\ _ /\ _) := ⟨gB, gB0, gB1, gB2⟩
 clear gB gB0 gB1 gB2;go_loopw [25] (fun iv wr => ∃ (q : Nat) (tv : Value), q <= np /\ iv = .int .i64 (q : Int) /\ UP w wr ub np tv /\ TR ub wr Pv tv q /\ findBad Pv np (np - q) q = findBad Pv np np 0) (fun iv _ => np - (intOf iv).toNat)
 case atStart => exact ⟨0, _, Nat.zero_le _, rfl, P0.out, T0.out, rfl⟩
 case round =>
  obtain ⟨q, tv, hq, rfl, hu, htr, hf⟩ := hrel;have P1 : Hid (UP w wr ub np tv) := hu;have T1 : Hid (TR ub wr Pv tv q) := htr;have HF : Hid (findBad Pv np (np - q) q = findBad Pv np np 0) := hf;clear hu htr hf P0 T0;by_cases hlt : q < np
  ·have hlt' : (q : Int) < (np : Int) := by omega
   have g0 : wr.cell? ⟨bp, q, none⟩ = some (.slice (some ⟨blk q, 0, none⟩) (Pv q).n (Pv q).c) := (H.out.r.below P1.out.bel lbp).cell hlt;have lnq := LB.out q hlt;have wz := P1.out.size;by_cases h5 : 500 < (Pv q).n
   ·have e5 : decide ((500 : Int) < ((Pv q).n : Int)) = true := by simp; omega
    obtain ⟨r0, r1, r2, r3, r4⟩ := up_cells P1.out;have rf := P1.out.RF;have rl := P1.out.R.1;have HX : Hid (findBad Pv np np 0 = (1, (q : Int), 0)) := (by rw [<- HF.out, show np - q = (np - q - 1) + 1 by omega]; show (if 500 < (Pv q).n then _ else _) = _; rw [if_pos h5] : findBad Pv np np 0 = (1, (q : Int), 0))
    obtain rfl : (1, (q : Int), 0) = res := by rw [<- HR.out]; exact (unit_bad HN.out HX.out (by simp)).symm
    go_wp2;refine bodyPost_ret (v := .agg #[.int .i64 1, .int .i64 (q : Int), .int .i64 0, .slice none 0 0, .slice none 0 0]) (by simp [results, Try.results19, go_sem, *]) rfl ⟨_, _, _, _, _, _, rfl, ?_, fun h => absurd h (by simp)⟩;refine Below.alloc ?_ (by simpa using P1.out.bel.size) _
    (repeat refine Below.setCell ?_ (by simp) _)
    exact P1.out.bel
   ·have e5 : decide ((500 : Int) < ((Pv q).n : Int)) = false := by simp; omega
    have H5 : Hid (¬ 500 < (Pv q).n) := h5;have h5' : (Pv q).n <= 500 := by omega
    go_wp2_with fail;clear h5 e5 g0;obtain ⟨u2, hu2, hb2, ht2⟩ : ∃ x, (wr.alloc (.cells #[.slice (some ⟨blk q, 0, none⟩) (Pv q).n (Pv q).c] 35)).alloc (.cells #[.slice (some ⟨blk q, 0, none⟩) (Pv q).n (Pv q).c, .int .i64 (q : Int), .int .i64 (np : Int), .int .i64 15, .int .i64 0, .int .i64 0] 86) = x /\ Below wr.heap.size wr x /\ TmP x (wr.heap.size + 1) (blk q) (Pv q).n (Pv q).c (q : Int) (np : Int) 15 0 0 := ⟨_, rfl, ((Below.refl _ _).alloc (Nat.le_refl _) _).alloc (by simp) _, by
     have := Cl.new (w := wr.alloc (.cells #[.slice (some ⟨blk q, 0, none⟩) (Pv q).n (Pv q).c] 35)) (vs := #[.slice (some ⟨blk q, 0, none⟩) (Pv q).n (Pv q).c, .int .i64 (q : Int), .int .i64 (np : Int), .int .i64 15, .int .i64 0, .int .i64 0]) (t := 86);rw [World.size_alloc] at this
     exact ⟨this, fun i => by simp [go_sem]⟩⟩
    rw [hu2];have lq := (H.out.b q hlt).lt;have bw := P1.out.bel.size;have hc := blockOf_any (Pv q).L (wr.heap.size + 1) (blk q) (Pv q).n (Pv q).c (q : Int) (np : Int) 15 (by omega) lnq (Pv q).n 0 (Pv q).n 0 (by omega) (Nat.zero_le _) (Nat.le_refl _) (by omega) (by omega) u2 (((H.out.b q hlt).below P1.out.bel lq).below hb2 (by omega)) ht2;rw [show ((Pv q).n : Int) - ((0 : Nat) : Int) = ((Pv q).n : Int) by omega, show (15 : Int) + 1 = 16 from rfl] at hc;obtain ⟨c, hcc⟩ : ∃ x, chk (Pv q).L (q : Int) (np : Int) 16 0 (Pv q).n 0 = x := ⟨_, rfl⟩
    rw [hcc] at hc;have HC : Hid (chk (Pv q).L (q : Int) (np : Int) 16 0 (Pv q).n 0 = c) := hcc;clear hcc hu2;refine hc.mono ?_;rintro e u3 ⟨ao3, k3, c3, rfl, hf3, ht3, hr3⟩;have z2 : wr.heap.size + 1 < u2.heap.size := ht2.C.1;have z3 := hf3.size;have P3 : Hid (UP w u3 ub np tv) := P1.out.kept ((hb2.mono wz).trans (hf3.low (by omega) (by omega)));have T3 : Hid (TR ub u3 Pv tv q) := T1.out.kept (fun b h1 h2 => (hf3.block b (by omega) (by omega)).trans (hb2.block b h1));have TM : Hid (TmP u3 (wr.heap.size + 1) (blk q) (Pv q).n (Pv q).c (q : Int) (np : Int) 15 c.1 (if c.1 = 0 then ((Pv q).n : Int) else c.2)) := ht3;have RR : Hid (c.1 = 0 -> RepN (Pv q).L ((Pv q).n + 1) u3 (fun b => u2.heap.size <= b) (.slice ao3 k3 c3) 0 (Pv q).n) := hr3;have ROW : Hid (∀ g, tv.ownBlock = some g -> g < u2.heap.size) := fun g hg => by
     obtain ⟨vs, ho, _⟩ := T1.out;have := (ho.lt g hg).2;omega
    clear hc hf3 ht3 hr3 hb2 ht2 P1 T1;have tl := TM.out.C.1;by_cases z : c.1 = 0
    ·have ez : (c.1 != 0) = false := by simp [z]
     have HZ : Hid (c.1 = 0) := z;have q4 : u3.cell? ⟨wr.heap.size + 1, 4, none⟩ = some (.int .i64 c.1) := TM.out.C.2 4 (by simp);clear z;obtain ⟨vs, ho, hr⟩ := T3.out;obtain ⟨ao7, k7, c7, rfl⟩ := row_slice ho;have OO : Hid (u3.ownsRow (ub + 1) 62 1 (.slice ao7 k7 c7) q vs) := ho;have RO : Hid (∀ (i : Nat) (x : Value), vs[i]? = some x -> RepN (Pv i).L ((Pv i).n + 1) u3 (fun b => ub + 1 <= b /\ (Value.slice ao7 k7 c7).ownBlock ≠ some b) x 0 (Pv i).n) := hr;have t3 : u3.cell? ⟨ub, 3, none⟩ = some (.slice ao7 k7 c7) := P3.out.U.2 3 (by simp)
     have ul3 := P3.out.U.1
     clear ho hr
     go_wp2_with (first | (at_builtin; refine wpList_append_own_at _ rfl _ _ 55 rfl (ub + 1) 62 iB (.slice none 0 0) 1 24 Try.underlying55 HIB.out.1 HIB.out.2.1 HIB.out.2.2.1 HIB.out.2.2.2 rfl (by decide) (.slice ao7 k7 c7) q vs rfl (row_belowU OO.out ((Below.refl _ _).alloc (Nat.le_refl _) _)) ⟨u3.heap.size, 0, none⟩ 1 1 [.slice ao3 k3 c3] rfl rfl (cell_one_new _ _ _) ?c2 ?c3 ?c4 ?c5 ?_) | go_in)
     case c2 => intro x hx; simp at hx; subst hx; rfl
     case c3 => unfold maxLen; omega
     case c4 => omega
     case c5 => simp; omega
     intro v' w4 hown hgrow _ hat
     have B4 : Below (ub + 1) u3 w4 := ((Below.refl (ub + 1) u3).alloc (by omega) _).grown hgrow (by simp; omega) (fun k hk => (OO.out.lt k hk).1)
     have P4 : Hid (UP w w4 ub np (.slice ao7 k7 c7)) := P3.out.kept B4
     have T4 : Hid (TR ub (w4.setCell ⟨ub, 3, none⟩ v') Pv v' (q + 1)) := TR.more OO.out RO.out ROW.out (by omega) (RR.out HZ.out) hown hgrow hat
     have P5 : Hid (UP w (w4.setCell ⟨ub, 3, none⟩ v') ub np v') := P4.out.setTree v'
     have t3' : w4.cell? ⟨ub, 3, none⟩ = some (.slice ao7 k7 c7) := P4.out.U.2 3 (by simp)
     have ul4 := P4.out.U.1
     have uf4 := P4.out.UF
     obtain ⟨ao8, k8, c8, rfl⟩ := row_slice hown
     clear hown hgrow hat B4 q4 t3 ul3
     go_wp2
     go_roundw
     case rel => exact ⟨q + 1, _, by omega, by go_num, P5.out, T4.out, by rw [<- HF.out, show np - q = (np - (q + 1)) + 1 by omega, find_step H5.out (by rw [HC.out]; simpa using HZ.out)]⟩
     case measure => simp [intOf]; omega
    ·have ez : (c.1 != 0) = true := by simp [z]
     have HX : Hid (findBad Pv np np 0 = (c.1, (q : Int), c.2)) := (by rw [<- HF.out, show np - q = (np - q - 1) + 1 by omega]; show (if 500 < (Pv q).n then _ else _) = _; rw [if_neg H5.out, HC.out, if_pos z] : findBad Pv np np 0 = (c.1, (q : Int), c.2))
     obtain rfl : (c.1, (q : Int), c.2) = res := by rw [<- HR.out]; exact (unit_bad HN.out HX.out z).symm
     have HZ : Hid (c.1 ≠ 0) := z
     have q4 : u3.cell? ⟨wr.heap.size + 1, 4, none⟩ = some (.int .i64 c.1) := TM.out.C.2 4 (by simp)
     have q5 : u3.cell? ⟨wr.heap.size + 1, 5, none⟩ = some (.int .i64 c.2) := (TM.out.C.2 5 (by simp)).trans (by rw [if_neg z]; rfl)
     clear z
     go_upto_region 13 with fail
     have k4 : ∀ w', Below u3.heap.size u3 w' -> w'.cell? ⟨wr.heap.size + 1, 4, none⟩ = some (.int .i64 c.1) := fun w' h => (h.cell (p := ⟨wr.heap.size + 1, 4, none⟩) tl).trans q4
     have k5 : ∀ w', Below u3.heap.size u3 w' -> w'.cell? ⟨wr.heap.size + 1, 5, none⟩ = some (.int .i64 c.2) := fun w' h => (h.cell (p := ⟨wr.heap.size + 1, 5, none⟩) tl).trans q5
     refine wp_region_L (T := fun w' => Below u3.heap.size u3 w') (s := 11) (by kernel_rfl) (Below.refl _ _).drew (fun hHeld => ?_)
     refine wpAnyL_tk 0 ?k1v rfl ?k1y ?k1r
     case k1y => (intro w hSw; (try dsimp only at hSw); go_simp; try with_reducible rfl)
     try simp only [Act.put, List.getElem_toArray, List.getElem_cons_zero, List.setIfInBounds_toArray, List.set_cons_zero, List.set_cons_succ]
     refine wpAnyL_tk 1 ?k2v rfl ?k2y ?k2r
     case k2y => (intro w hSw; (try dsimp only at hSw); go_simp; try with_reducible rfl)
     try simp only [Act.put, List.getElem_toArray, List.getElem_cons_zero, List.getElem_cons_succ, List.setIfInBounds_toArray, List.set_cons_zero, List.set_cons_succ]
     refine wpAnyL_tk 2 ?k3v rfl ?k3y ?k3r
     case k3y => (intro w hSw; (try dsimp only at hSw); go_simp; try with_reducible rfl)
     try simp only [Act.put, List.getElem_toArray, List.getElem_cons_zero, List.getElem_cons_succ, List.setIfInBounds_toArray, List.set_cons_zero, List.set_cons_succ]
     refine wpAnyL_tk 3 ?k4v rfl ?k4y ?k4r
     case k4y => (intro w hSw; (try dsimp only at hSw); go_simp; try with_reducible rfl)
     try simp only [Act.put, List.getElem_toArray, List.getElem_cons_zero, List.getElem_cons_succ, List.setIfInBounds_toArray, List.set_cons_zero, List.set_cons_succ]
     refine wpAnyL_tk 4 ?k5v rfl ?k5y ?k5r
     case k5y => (intro w hSw; (try dsimp only at hSw); go_simp; try with_reducible rfl)
     try simp only [Act.put, List.getElem_toArray, List.getElem_cons_zero, List.getElem_cons_succ, List.setIfInBounds_toArray, List.set_cons_zero, List.set_cons_succ]
     refine wpAnyL_tk 5 ?k6v rfl ?k6y ?k6r
     case k6y => (intro w hSw; (try dsimp only at hSw); go_simp; try with_reducible rfl)
     try simp only [Act.put, List.getElem_toArray, List.getElem_cons_zero, List.getElem_cons_succ, List.setIfInBounds_toArray, List.set_cons_zero, List.set_cons_succ]
     refine wpAnyL_tk 6 ?k7v rfl ?k7y ?k7r
     case k7y => (intro w hSw; (try dsimp only at hSw); go_simp; try with_reducible rfl)
     try simp only [Act.put, List.getElem_toArray, List.getElem_cons_zero, List.getElem_cons_succ, List.setIfInBounds_toArray, List.set_cons_zero, List.set_cons_succ]
     refine wpAnyL_tk 7 ?k8v rfl ?k8y ?k8r
     case k8y => (intro w hSw; (try dsimp only at hSw); go_simp; try with_reducible rfl)
     try simp only [Act.put, List.getElem_toArray, List.getElem_cons_zero, List.getElem_cons_succ, List.setIfInBounds_toArray, List.set_cons_zero, List.set_cons_succ]
     refine wpAnyL_tk 8 ?k9v rfl ?k9y ?k9r
     case k9y => (intro w hSw; (try dsimp only at hSw); go_simp; try with_reducible rfl)
     try simp only [Act.put, List.getElem_toArray, List.getElem_cons_zero, List.getElem_cons_succ, List.setIfInBounds_toArray, List.set_cons_zero, List.set_cons_succ]
     refine wpAnyL_tk 9 ?k10v rfl ?k10y ?k10r
     case k10y => (intro w hSw; (try dsimp only at hSw); go_simp; try with_reducible rfl)
     try simp only [Act.put, List.getElem_toArray, List.getElem_cons_zero, List.getElem_cons_succ, List.setIfInBounds_toArray, List.set_cons_zero, List.set_cons_succ]
     refine wpAnyL_tk 10 ?k11v rfl ?k11y ?k11r
     case k11y => (intro w hSw; (try dsimp only at hSw); go_simp; try with_reducible rfl)
     try simp only [Act.put, List.getElem_toArray, List.getElem_cons_zero, List.getElem_cons_succ, List.setIfInBounds_toArray, List.set_cons_zero, List.set_cons_succ]
     have PD : Hid (UP w u3.drew ub np tv) := P3.out.kept ((Below.refl _ _).drew)
     generalize u3.drew = u4 at *
     obtain ⟨r0, r1, r2, r3, r4⟩ := up_cells PD.out
     have rf := PD.out.RF
     have rl := PD.out.R.1
     refine wpAnyL_store rfl (by kernel_rfl) (by kernel_rfl) (fun KK hK => ?_)
     go_simp
     refine hK.out _ _ ?_
     clear hK KK hHeld k4 k5 q4 q5
     go_wp2
     refine bodyPost_ret (v := .agg #[.int .i64 c.1, .int .i64 (q : Int), .int .i64 c.2, .slice none 0 0, .slice none 0 0]) (by simp [results, Try.results19, go_sem, *]) rfl ⟨_, _, _, _, _, _, rfl, ?_, fun h => absurd h HZ.out⟩
     (repeat refine Below.setCell ?_ (by simp) _)
     exact PD.out.bel
  ·obtain rfl : q = np := by omega
   have hlt' : ¬ (q : Int) < (q : Int) := by omega
   have HG : Hid (findBad Pv q q 0 = (0, 0, 0)) := (by rw [<- HF.out, Nat.sub_self]; rfl : findBad Pv q q 0 = (0, 0, 0))
   clear hlt hq HF
   obtain ⟨vs, ho, hr⟩ := T1.out
   obtain ⟨g, cz, rfl⟩ := row_some2 ho (by omega)
   have hgl := ho.lt g rfl
   have gl : ub + 1 <= g := hgl.1
   have AT : Hid (At wr g 0 q (fun i => vs.getD i undef)) := ⟨hgl.2, fun i hi => by
    rw [Nat.zero_add, ho.cellAt i (by omega)]
    show vs[i]? = some (vs.getD i undef)
    have : i < vs.length := by rw [ho.1]; omega
    simp [List.getD_eq_getElem?_getD, this]⟩
   have RP : Hid (∀ i, i < q -> RepN (Pv i).L ((Pv i).n + 1) wr (fun b => ub + 1 <= b /\ (Value.slice (some ⟨g, 0, none⟩) q cz).ownBlock ≠ some b) (vs.getD i undef) 0 (Pv i).n) := fun i hi => hr i _ (by
    have : i < vs.length := by rw [ho.1]; omega
    simp [List.getD_eq_getElem?_getD, this])
   clear ho hr hgl T1
   go_wp2_with fail
   refine (measure_any ub (w.heap.size + 1) g q cz q (.int .i64 0) (.int .i64 0) (.int .i64 0) Pv (fun i => vs.getD i undef) _ wr n20 P1.out.U AT.out P1.out.Z RP.out (fun b hb => by omega) (by omega) (by omega) (fun i hi => by
    obtain ⟨h1, h2⟩ := find_all q 0 (by rw [HG.out]) i (Nat.zero_le _) (by omega)
    exact ⟨by omega, h2⟩)).mono ?_
   rintro e u1 ⟨rfl, hf, ha⟩
   have ll := P1.out.bel.size
   have wl := P1.out.size
   have BE : Hid (Below w.heap.size w u1) := P1.out.bel.trans (hf.low (by omega) (by omega))
   have CR : Hid (Cl u1 w.heap.size [.int .i64 0, .int .i64 0, .int .i64 0, .slice none 0 0, .slice none 0 0]) := hf.cl P1.out.R (by omega)
   have rf : ∀ i, u1.frozen? ⟨w.heap.size, i, none⟩ = false := fun i => (hf.frozen P1.out.R.1 (by omega)).trans (P1.out.RF i)
   have CU : Hid (Cl u1 ub [.int .i64 0, .int .i64 0, .int .i64 0, .slice (some ⟨g, 0, none⟩) q cz, .slice (some ⟨w.heap.size + 1, 0, none⟩) q q]) := hf.cl P1.out.U (by omega)
   have uf : ∀ i, u1.frozen? ⟨ub, i, none⟩ = false := fun i => (hf.frozen P1.out.U.1 (by omega)).trans (P1.out.UF i)
   have AZ : Hid (Arr u1 (w.heap.size + 1) q (zF (pz Pv q q))) := ha
   have AG : Hid (At u1 g 0 q (fun i => vs.getD i undef)) := ⟨Nat.lt_of_lt_of_le AT.out.1 hf.size, fun i hi => (hf.cell AT.out.1 (by omega)).trans (AT.out.2 i hi)⟩
   have RG : Hid (∀ i, i < q -> RepN (Pv i).L ((Pv i).n + 1) u1 (fun b => ub + 1 <= b) (vs.getD i undef) 0 (Pv i).n) := fun i hi => (RP.out i hi).kept (fun b h => h.1) (fun b h hl => hf.block b hl (by omega))
   clear hf ha P1 AT RP
   obtain ⟨z0, hz0⟩ : ∃ x, pz Pv q q 0 = x := ⟨_, rfl⟩
   have a0 : u1.cell? ⟨w.heap.size + 1, 0, none⟩ = some (.int .i64 z0) := hz0 ▸ AZ.out.cell (i := 0) (by omega)
   have HZ0 : Hid (min z0 2000 = min (zs Pv q q 0) 2000) := (by rw [<- hz0]; exact pz_zs Pv q q 0 : min z0 2000 = min (zs Pv q q 0) 2000)
   clear hz0
   have al := AZ.out.lt
   have ul1 := CU.out.1
   have rl := CR.out.1
   have r0 : u1.cell? ⟨w.heap.size, 0, none⟩ = some (.int .i64 0) := CR.out.2 0 (by simp)
   have r1 : u1.cell? ⟨w.heap.size, 1, none⟩ = some (.int .i64 0) := CR.out.2 1 (by simp)
   have r2 : u1.cell? ⟨w.heap.size, 2, none⟩ = some (.int .i64 0) := CR.out.2 2 (by simp)
   have r3 : u1.cell? ⟨w.heap.size, 3, none⟩ = some (.slice none 0 0) := CR.out.2 3 (by simp)
   have r4 : u1.cell? ⟨w.heap.size, 4, none⟩ = some (.slice none 0 0) := CR.out.2 4 (by simp)
   have c0 : u1.cell? ⟨ub, 0, none⟩ = some (.int .i64 0) := CU.out.2 0 (by simp)
   have c1 : u1.cell? ⟨ub, 1, none⟩ = some (.int .i64 0) := CU.out.2 1 (by simp)
   have c2 : u1.cell? ⟨ub, 2, none⟩ = some (.int .i64 0) := CU.out.2 2 (by simp)
   have c3 : u1.cell? ⟨ub, 3, none⟩ = some (.slice (some ⟨g, 0, none⟩) q cz) := CU.out.2 3 (by simp)
   have c4 : u1.cell? ⟨ub, 4, none⟩ = some (.slice (some ⟨w.heap.size + 1, 0, none⟩) q q) := CU.out.2 4 (by simp)
   have hq0 : (0 : Int) < (q : Int) := by omega
   by_cases hz : 2000 <= z0
   ·obtain rfl : (6, 0, 0) = res := by
     have := HZ0.out
     rw [<- HR.out, unitR, if_neg HN.out, HG.out, if_neg (by decide), if_pos (by omega)]
    go_wp2
    refine bodyPost_ret (v := .agg #[.int .i64 6, .int .i64 0, .int .i64 0, .slice (some ⟨g, 0, none⟩) q cz, .slice (some ⟨w.heap.size + 1, 0, none⟩) q q]) (by simp [results, Try.results19, go_sem, *]) rfl ⟨_, _, _, _, _, _, rfl, ?_, fun h => absurd h (by decide)⟩
    (repeat refine Below.setCell ?_ (by simp; try omega) _)
    exact BE.out
   ·obtain rfl : (0, 0, 0) = res := by
     have := HZ0.out
     rw [<- HR.out, unitR, if_neg HN.out, HG.out, if_neg (by decide), if_neg (by omega)]
    go_wp2
    refine bodyPost_ret (v := .agg #[.int .i64 0, .int .i64 0, .int .i64 0, .slice (some ⟨g, 0, none⟩) q cz, .slice (some ⟨w.heap.size + 1, 0, none⟩) q q]) (by simp [results, Try.results19, go_sem, *]) rfl ⟨_, _, _, _, _, _, rfl, ?_, fun _ => ?_⟩
    ·(repeat refine Below.setCell ?_ (by simp) _)
     exact BE.out
    ·refine UOK.of ul gl AZ.out AG.out RG.out ?_
     (repeat refine Ft.set ?_ _ _)
     exact Ft.refl _ _
theorem implUnit_any(bp np cap:Nat)(Pv:Nat->PV)(blk:Nat->Nat)(w:World)(ln:np<=1048576)(lb:∀i,i<np->(Pv i).n<=1048576)(h:PCp w bp np Pv blk):
 Calls Try.prog 6 #[.slice (some ⟨bp,0,none⟩) np cap] w fun e w'=>e=.returned (.agg #[.int .i64 (unitR Pv np).1,.int .i64 (unitR Pv np).2.1,.int .i64 (unitR Pv np).2.2])/\Below w.heap.size w w':=by
 have H:Hid (PCp w bp np Pv blk):=h;have LB:Hid (∀i,i<np->(Pv i).n<=1048576):=lb;clear h lb;obtain⟨res,hres⟩:∃x,unitR Pv np=x:=⟨_,rfl⟩
 rw[hres];have HR:Hid (unitR Pv np=res):=hres;clear hres;go_enter Try.func6,Try.ntmps6;go_upto_region 1 with fail;obtain⟨u,hu,hp⟩:∃x,w.alloc (.cells #[.int .i64 0,.int .i64 0,.int .i64 0] 26)=x/\UsP w x:=⟨_,rfl,(Below.refl _ _).alloc (Nat.le_refl _) _,Cl.new,fun i=>by simp[go_sem]⟩
 rw[hu];have P0:Hid (UsP w u):=hp;have H0:Hid (PCp u bp np Pv blk):=(by rw[<-hu];exact H.out.below ((Below.refl _ _).alloc (Nat.le_refl _) _):PCp u bp np Pv blk)
 clear hu hp;go_wp2_with fail;refine(checkUnit_any bp np cap Pv blk u ln LB.out H0.out).mono ?_;rintro e v hcu;rw[HR.out]at hcu;obtain⟨aot,kt,ct,aoz,kz,cz,rfl,hb,_⟩:=hcu;have P1:Hid (UsP w v):=P0.out.below P0.out.R.1 hb;clear hb P0 H0;obtain⟨r0,r1,r2⟩:=us_cells P1.out;have rf:=P1.out.RF;have rl:=P1.out.R.1;obtain⟨x,y,z⟩:=res;have hfd:∀w:World,(Instr.field 57 (.agg #[.int .i64 x,.int .i64 y,.int .i64 z,.slice aot kt ct,.slice aoz kz cz]) 0).run Try.prog w=.ok (.agg #[.int .i64 x,.int .i64 y,.int .i64 z]) w:=fun _=>by kernel_rfl
 go_wp2;refine bodyPost_ret (v:=.agg #[.int .i64 x,.int .i64 y,.int .i64 z]) (by simp[results,Try.results6,go_sem, *]) rfl ⟨rfl,?_⟩
 (repeat refine Below.setCell ?_ (by simp) _)
 exact P1.out.bel
end Go.Proofs.Ytplnpgohdgialaa
namespace Go.Proofs.Ytplnpgohdgialaa
open Go.RowKit Go.Deep
def CU3(w:World)(e:Ending)(w':World):Prop:=
 ∃(aot:Option Addr)(kt ct:Nat)(aoz:Option Addr)(kz cz:Nat),e=.returned (.agg #[.int .i64 0,.int .i64 0,.int .i64 0,.slice aot kt ct,.slice aoz kz cz])/\Below w.heap.size w w'
theorem checkUnit_nil (bp cap : Nat) (w : World) (lbp : bp < w.heap.size) (h0 : w.cell? ⟨bp, 0, none⟩ = some (.slice none 0 0)) :
 Calls Try.prog 19 #[.slice (some ⟨bp, 0, none⟩) 1 cap] w (CU3 w) := by
 have H0 : Hid (w.cell? ⟨bp, 0, none⟩ = some (.slice none 0 0)) := h0;clear h0;obtain ⟨i0, hi, hz0, hz1, hz2⟩ := info_parts info_i64;have HI0 : Hid (_ /\ _ /\ _ /\ _) := ⟨hi, hz0, hz1, hz2⟩
 clear hi hz0 hz1 hz2;obtain ⟨Pv, hPv⟩ : ∃ P : Nat -> PV, P = fun _ => ⟨0, fun _ => sv0, 0⟩ := ⟨_, rfl⟩
 have HPV : Hid (Pv = fun _ => ⟨0, fun _ => sv0, 0⟩) := hPv;clear hPv;go_enter Try.func19, Try.ntmps19;go_wp2_with (first | (at_make; refine wpList_make_full _ rfl _ _ 53 rfl (w.heap.size + 1) 2 i0 _ 1 Try.underlying53 HI0.out.1 HI0.out.2.1 HI0.out.2.2.1 .i64 .i64 _ _ 1 rfl rfl ?c1 ?c2 ?c3 ?c4 ?c5 ?_) | go_in)
 case c1 => rfl
 case c2 => rfl
 case c3 => rw [HI0.out.2.2.2]; omega
 case c4 => unfold maxLen; omega
 case c5 => simp
 intro w1 hown hgrow;have hb1 : Below (w.heap.size + 1) (w.alloc (.cells #[.int .i64 0, .int .i64 0, .int .i64 0, .slice none 0 0, .slice none 0 0] 57)) w1 := (Below.refl _ _).grown hgrow (by simp) (by intro k hk; cases hk);have hz1 : Arr w1 (w.heap.size + 1) 1 (zF (fun _ => 0)) := by
  have := Arr.made (w := w.alloc (.cells #[.int .i64 0, .int .i64 0, .int .i64 0, .slice none 0 0, .slice none 0 0] 57)) (z := zF (fun _ => 0)) (by simpa using hown) fun i hi => by rw [made_get _ _ _ (show i < 1 by omega)]; exact congrArg some (show (#[Value.int .i64 0] : Array Value)[i % 1]! = _ by rw [Nat.mod_one]; rfl)
  rw [Nat.mul_one] at this;simpa using this
 have hw1 := hz1.lt;have Q1 : Hid (Below w.heap.size w w1 /\ Cl w1 w.heap.size [.int .i64 0, .int .i64 0, .int .i64 0, .slice none 0 0, .slice none 0 0] /\ (∀ i, w1.frozen? ⟨w.heap.size, i, none⟩ = false) /\ Arr w1 (w.heap.size + 1) 1 (zF (fun _ => 0))) := ⟨((Below.refl _ _).alloc (Nat.le_refl _) _).trans (hb1.mono (by omega)), (Cl.new (w := w) (vs := #[.int .i64 0, .int .i64 0, .int .i64 0, .slice none 0 0, .slice none 0 0])).below (hb1.mono (by simp)), fun i => (hb1.frozen (p := ⟨w.heap.size, i, none⟩) (by simp)).trans (by simp [go_sem]), hz1⟩
 clear hown hgrow hb1 hz1 HI0;go_upto_region 5 with fail;obtain ⟨u, hu, hp⟩ : ∃ x, w1.alloc (.cells #[.int .i64 0, .int .i64 0, .int .i64 0, .slice none 0 0, .slice (some ⟨w.heap.size + 1, 0, none⟩) 1 1] 57) = x /\ UP w x w1.heap.size 1 (.slice none 0 0) :=
  ⟨_, rfl, hw1, Q1.out.1.alloc (by omega) _, Q1.out.2.1.below ((Below.refl _ _).alloc (Nat.le_refl _) _), fun i => (((Below.refl w1.heap.size w1).alloc (Nat.le_refl _) _).frozen (p := ⟨w.heap.size, i, none⟩) (by show w.heap.size < _; omega)).trans (Q1.out.2.2.1 i), Cl.new, fun i => by simp [go_sem], Q1.out.2.2.2.below ((Below.refl w1.heap.size w1).alloc (Nat.le_refl _) _) hw1⟩
 rw [hu];have P0 : Hid (UP w u w1.heap.size 1 (.slice none 0 0)) := hp;clear hu hp Q1;generalize w1.heap.size = ub at *;have ul : w.heap.size + 1 < ub := P0.out.lt;obtain ⟨iB, gB, gB0, gB1, gB2⟩ := info_parts info_block;have HIB : Hid (_ /\ _ /\ _ /\ _) := ⟨gB, gB0, gB1, gB2⟩
 clear gB gB0 gB1 gB2;have g0 : u.cell? ⟨bp, 0, none⟩ = some (.slice none 0 0) := (P0.out.bel.cell (p := ⟨bp, 0, none⟩) lbp).trans H0.out;have wz := P0.out.size;have bw := P0.out.bel.size;have lbu : bp < u.heap.size := by omega
 refine wp_loop_rounds 2 ?_;rw [rounds_succ];go_wp2_with fail;clear g0;obtain ⟨u2, hu2, hb2, C2⟩ : ∃ x, (u.alloc (.cells #[.slice none 0 0] 35)).alloc (.cells #[.slice none 0 0, .int .i64 0, .int .i64 1, .int .i64 15, .int .i64 0, .int .i64 0] 86) = x /\ Below u.heap.size u x /\ Cl x (u.heap.size + 1) [.slice none 0 0, .int .i64 0, .int .i64 1, .int .i64 15, .int .i64 0, .int .i64 0] := ⟨_, rfl, ((Below.refl _ _).alloc (Nat.le_refl _) _).alloc (by simp) _, by
  have := Cl.new (w := u.alloc (.cells #[.slice none 0 0] 35)) (vs := #[.slice none 0 0, .int .i64 0, .int .i64 1, .int .i64 15, .int .i64 0, .int .i64 0]) (t := 86);rw [World.size_alloc] at this;exact this⟩
 rw [hu2];have P2 : Hid (UP w u2 ub 1 (.slice none 0 0)) := P0.out.kept (hb2.mono wz);clear hu2 P0 hb2;refine (blockOf_nil (u.heap.size + 1) 0 0 1 15 u2 C2).mono ?_;rintro e u3 ⟨rfl, rfl⟩;have c4 : u3.cell? ⟨u.heap.size + 1, 4, none⟩ = some (.int .i64 0) := C2.2 4 (by simp);have ql := C2.1;have t3 : u3.cell? ⟨ub, 3, none⟩ = some (.slice none 0 0) := P2.out.U.2 3 (by simp);have ul3 := P2.out.U.1;clear C2;have OO : Hid (u3.ownsRow (ub + 1) 62 1 (.slice none 0 0) 0 []) := World.ownsRow_nil _ _ _ _;go_wp2_with (first | (at_builtin; refine wpList_append_own_at _ rfl _ _ 55 rfl (ub + 1) 62 iB (.slice none 0 0) 1 24 Try.underlying55 HIB.out.1 HIB.out.2.1 HIB.out.2.2.1 HIB.out.2.2.2 rfl (by decide) (.slice none 0 0) 0 [] rfl (row_belowU OO.out ((Below.refl _ _).alloc (Nat.le_refl _) _)) ⟨u3.heap.size, 0, none⟩ 1 1 [.slice none 0 0] rfl rfl (cell_one_new _ _ _) ?c2 ?c3 ?c4 ?c5 ?_) | go_in)
 case c2 => intro x hx; simp at hx; subst hx; rfl
 case c3 => unfold maxLen; omega
 case c4 => omega
 case c5 => simp; omega
 intro v' w4 hown hgrow _ hat;have B4 : Below (ub + 1) u3 w4 := ((Below.refl (ub + 1) u3).alloc (by omega) _).grown hgrow (by simp; omega) (fun k hk => (OO.out.lt k hk).1);have P4 : Hid (UP w w4 ub 1 (.slice none 0 0)) := P2.out.kept B4;obtain ⟨g, cz, rfl⟩ := row_some2 hown (by omega);have hgl := hown.lt g rfl;have P5 : Hid (UP w (w4.setCell ⟨ub, 3, none⟩ (.slice (some ⟨g, 0, none⟩) 1 cz)) ub 1 (.slice (some ⟨g, 0, none⟩) 1 cz)) := P4.out.setTree _;have G5 : Hid ((w4.setCell ⟨ub, 3, none⟩ (.slice (some ⟨g, 0, none⟩) 1 cz)).cell? ⟨g, 0, none⟩ = some (.slice none 0 0) /\ g < (w4.setCell ⟨ub, 3, none⟩ (.slice (some ⟨g, 0, none⟩) 1 cz)).heap.size /\ ub + 1 <= g) := ⟨(World.cell?_setCell_far _ _ _ _ (show ub ≠ g by omega)).trans (hown.cellAt 0 (by omega)), by simpa using hgl.2, hgl.1⟩
 have t3' : w4.cell? ⟨ub, 3, none⟩ = some (.slice none 0 0) := P4.out.U.2 3 (by simp);have ul4 := P4.out.U.1;have uf4 := P4.out.UF;clear hown hgrow hat B4 c4 t3 ul3 P2 P4;go_wp2;rw [rounds_succ];generalize w4.setCell ⟨ub, 3, none⟩ (.slice (some ⟨g, 0, none⟩) 1 cz) = wr at *;have AT : Hid (At wr g 0 1 (fun _ => .slice none 0 0)) := ⟨G5.out.2.1, fun i hi => by rw [show 0 + i = 0 by omega]; exact G5.out.1⟩
 have gl := G5.out.2.2;have RP : Hid (∀ i, i < 1 -> RepN (Pv i).L ((Pv i).n + 1) wr (fun _ => False) (.slice none 0 0) 0 (Pv i).n) := fun i hi => by rw [HPV.out]; exact rep_nil _ _ _
 clear ql t3' ul4 uf4;go_wp2_with fail;refine (measure_any ub (w.heap.size + 1) g 1 cz 1 (.int .i64 0) (.int .i64 0) (.int .i64 0) Pv (fun _ => .slice none 0 0) _ wr (by omega) P5.out.U AT.out P5.out.Z RP.out (fun b hb => hb.elim) (by omega) (by omega) (fun i hi => by rw [HPV.out]; exact ⟨Nat.zero_le _, chk_nil _ _ _ _ _⟩)).mono ?_;rintro e u1 ⟨rfl, hf, ha⟩;have ll := P5.out.bel.size;have wl := P5.out.size;have BE : Hid (Below w.heap.size w u1) := P5.out.bel.trans (hf.low (by omega) (by omega));have CR : Hid (Cl u1 w.heap.size [.int .i64 0, .int .i64 0, .int .i64 0, .slice none 0 0, .slice none 0 0]) := hf.cl P5.out.R (by omega);have rf : ∀ i, u1.frozen? ⟨w.heap.size, i, none⟩ = false := fun i => (hf.frozen P5.out.R.1 (by omega)).trans (P5.out.RF i)
 have CU : Hid (Cl u1 ub [.int .i64 0, .int .i64 0, .int .i64 0, .slice (some ⟨g, 0, none⟩) 1 cz, .slice (some ⟨w.heap.size + 1, 0, none⟩) 1 1]) := hf.cl P5.out.U (by omega);have AZ : Hid (u1.cell? ⟨w.heap.size + 1, 0, none⟩ = some (.int .i64 0)) := (by have := ha.cell (i := 0) (by omega); rw [HPV.out] at this; exact this : u1.cell? ⟨w.heap.size + 1, 0, none⟩ = some (.int .i64 0))
 have az := ha.lt;clear hf ha P5 AT RP;have a0 := AZ.out;have ul1 := CU.out.1;have rl := CR.out.1;obtain ⟨r0, r1, r2, r3, r4⟩ : u1.cell? ⟨w.heap.size, 0, none⟩ = some (.int .i64 0) /\ u1.cell? ⟨w.heap.size, 1, none⟩ = some (.int .i64 0) /\ u1.cell? ⟨w.heap.size, 2, none⟩ = some (.int .i64 0) /\ u1.cell? ⟨w.heap.size, 3, none⟩ = some (.slice none 0 0) /\ u1.cell? ⟨w.heap.size, 4, none⟩ = some (.slice none 0 0) := ⟨CR.out.2 0 (by simp), CR.out.2 1 (by simp), CR.out.2 2 (by simp), CR.out.2 3 (by simp), CR.out.2 4 (by simp)⟩
 obtain ⟨c0, c1, c2, c3, c4⟩ : u1.cell? ⟨ub, 0, none⟩ = some (.int .i64 0) /\ u1.cell? ⟨ub, 1, none⟩ = some (.int .i64 0) /\ u1.cell? ⟨ub, 2, none⟩ = some (.int .i64 0) /\ u1.cell? ⟨ub, 3, none⟩ = some (.slice (some ⟨g, 0, none⟩) 1 cz) /\ u1.cell? ⟨ub, 4, none⟩ = some (.slice (some ⟨w.heap.size + 1, 0, none⟩) 1 1) := ⟨CU.out.2 0 (by simp), CU.out.2 1 (by simp), CU.out.2 2 (by simp), CU.out.2 3 (by simp), CU.out.2 4 (by simp)⟩
 go_wp2;refine bodyPost_ret (v := .agg #[.int .i64 0, .int .i64 0, .int .i64 0, .slice (some ⟨g, 0, none⟩) 1 cz, .slice (some ⟨w.heap.size + 1, 0, none⟩) 1 1]) (by simp [results, Try.results19, go_sem, *]) rfl ⟨_, _, _, _, _, _, rfl, ?_⟩
 (repeat refine Below.setCell ?_ (by simp) _)
 exact BE.out
theorem implUnit_nil(bp cap:Nat)(w:World)(lbp:bp<w.heap.size)(h0:w.cell? ⟨bp,0,none⟩=some (.slice none 0 0)):
 Calls Try.prog 6 #[.slice (some ⟨bp,0,none⟩) 1 cap] w fun e w'=>e=.returned (.agg #[.int .i64 0,.int .i64 0,.int .i64 0])/\Below w.heap.size w w':=by
 have H0:Hid (w.cell? ⟨bp,0,none⟩=some (.slice none 0 0)):=h0;clear h0;go_enter Try.func6,Try.ntmps6;go_upto_region 1 with fail;obtain⟨u,hu,hb,hp⟩:∃x,w.alloc (.cells #[.int .i64 0,.int .i64 0,.int .i64 0] 26)=x/\Below w.heap.size w x/\UsP w x:=⟨_,rfl,(Below.refl _ _).alloc (Nat.le_refl _) _,(Below.refl _ _).alloc (Nat.le_refl _) _,Cl.new,fun i=>by simp[go_sem]⟩
 rw[hu];have P0:Hid (UsP w u):=hp;have L0:bp<u.heap.size:=by have:=hb.size;omega
 have G0:Hid (u.cell? ⟨bp,0,none⟩=some (.slice none 0 0)):=(hb.cell (p:=⟨bp,0,none⟩) lbp).trans H0.out;clear hu hp hb;go_wp2_with fail;refine(checkUnit_nil bp cap u L0 G0.out).mono ?_;rintro e v⟨aot,kt,ct,aoz,kz,cz,rfl,hb⟩;have P1:Hid (UsP w v):=P0.out.below P0.out.R.1 hb;clear hb P0;obtain⟨r0,r1,r2⟩:=us_cells P1.out;have rf:=P1.out.RF;have rl:=P1.out.R.1;have hfd:∀w:World,(Instr.field 57 (.agg #[.int .i64 0,.int .i64 0,.int .i64 0,.slice aot kt ct,.slice aoz kz cz]) 0).run Try.prog w=.ok (.agg #[.int .i64 0,.int .i64 0,.int .i64 0]) w:=fun _=>by kernel_rfl
 go_wp2;refine bodyPost_ret (v:=.agg #[.int .i64 0,.int .i64 0,.int .i64 0]) (by simp[results,Try.results6,go_sem, *]) rfl ⟨rfl,?_⟩
 (repeat refine Below.setCell ?_ (by simp) _)
 exact P1.out.bel
end Go.Proofs.Ytplnpgohdgialaa
