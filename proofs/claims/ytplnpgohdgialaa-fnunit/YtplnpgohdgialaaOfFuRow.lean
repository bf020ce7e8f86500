import Derived.Test.YtplnpgohdgialaaAddBlock
import Derived.Test.YtplnpgohdgialaaOfFu8d
import Derived.Test.YtplnpgohdgialaaFuMath
import Derived.Test.YtplnpgohdgialaaOfFlatAny
import Derived.Test.YtplnpgohdgialaaOfCl
import Derived.OpenShut
import Derived.ChangeOld
import Derived.Below
set_option maxHeartbeats 16000000
set_option maxRecDepth 100000
namespace Go.Proofs.Ytplnpgohdgialaa
open Go.RowKit
theorem addBlock_any(w0:World)(B:Nat->List SV)(L:Nat->SV)(bb np cb:Nat)(bv:Nat->Value)(me deep:Int)(S:Nat->Prop)(hB:At w0 bb 0 np bv):∀(m i te:Nat)(depth:Int)(tv:Value),RepN L m w0 S tv i te->i<=te->te<=2000->(chk L me (np:Int) deep i te depth).1=0->
 (∀p,i<=p->p<te->(L p).k=4->w0.ownsRow 0 33 11 (bv (L p).proc.toNat) (B (L p).proc.toNat).length (cs (B (L p).proc.toNat)))->AddC w0 B L bb np cb i te tv:=by
 intro m;induction m with
 |zero=>
  intro i te depth tv hr hit hte hck hV;obtain⟨h1,rfl⟩:=hr;obtain rfl:i=te:=by omega
  exact addBlock_go w0 B L bb np cb bv me deep 0 i i depth (.slice none 0 0) S ⟨[],⟨World.ownsRow_nil _ _ _ _,fun b h=>by cases h⟩,by rw[tops_end (by omega)];rfl,fun k x p h=>by simp at h⟩ hit hte hck hB hV (fun i' te' d v h1 h2 h3=>by omega)
 |succ m ih=>
  intro i te depth tv hr hit hte hck hV;exact addBlock_go w0 B L bb np cb bv me deep m i te depth tv S hr hit hte hck hB hV (fun i' te' d v h1 h2 h3 h4 h5=>ih i' te' d v h5 h2 (by omega) h4 (fun p h6 h7=>hV p (by omega) (by omega)))
theorem info_stmtS:(Try.prog.info? 28).map (fun i=>(i.zero,i.size,i.bytes))=some (some (.slice none 0 0),1,24):=by kernel_rfl
structure IP(w u:World)(ub g cz zb bb np:Nat)(Pv:Nat->PV)(vs:Nat->Value):Prop where
 l0:w.heap.size<=bb
 l1:ub<bb
 l2:g<bb
 l3:zb<bb
 bel:Below w.heap.size w u
 U:Cl u ub [.int .i64 0,.int .i64 0,.int .i64 0,.slice (some ⟨g,0,none⟩) np cz,.slice (some ⟨zb,0,none⟩) np np]
 G:At u g 0 np vs
 Z:Arr u zb np (zF (pz Pv np np))
 R:∀i,i<np->RepN (Pv i).L ((Pv i).n+1) u (fun b=>b<bb) (vs i) 0 (Pv i).n
theorem IP.kept{w u v:World}{ub g cz zb bb np:Nat}{Pv:Nat->PV}{vs:Nat->Value}(p:IP w u ub g cz zb bb np Pv vs)(h:Below bb u v):IP w v ub g cz zb bb np Pv vs:=
 ⟨p.l0,p.l1,p.l2,p.l3,p.bel.trans (h.mono p.l0),⟨Nat.lt_of_lt_of_le p.U.1 h.size,fun i hi=>(h.cell (p:=⟨ub,i,none⟩) p.l1).trans (p.U.2 i hi)⟩,p.G.below h p.l2,p.Z.below h p.l3,fun i hi=>(p.R i hi).kept (fun _ h=>h) (fun b hb _=>h.block b hb)⟩
def BV(u:World)(bb np k:Nat)(Pv:Nat->PV)(bv:Nat->Value):Prop:=
 Arr u bb np bv/\∀x,np-k<=x->x<np->Zd Pv np x<2000->u.ownsRow (bb+1) 33 11 (bv x) (Bdy Pv np x).length (cs (Bdy Pv np x))
theorem BV.next{u v:World}{bb np k x:Nat}{Pv:Nat->PV}{bv:Nat->Value}{nv:Value}(h:BV u bb np k Pv bv)(hk:k<np)(hx:x=np-1-k)(hb:Below u.heap.size u v)(ho:Zd Pv np x<2000->v.ownsRow (bb+1) 33 11 nv (Bdy Pv np x).length (cs (Bdy Pv np x))):
 BV (v.setCell ⟨bb,x,none⟩ nv) bb np (k+1) Pv (fun i=>if i=x then nv else bv i):=by
 have hrow:∀{e n:Nat}{y:Value}{l:List Value},v.ownsRow (bb+1) e 11 y n l->(v.setCell ⟨bb,x,none⟩ nv).ownsRow (bb+1) e 11 y n l:=fun h=>ownsRow_setCell_below h (by show bb<_;omega) _
 refine⟨(h.1.below hb h.1.lt).setU x (by omega) nv,fun y h1 h2 h3=>?_⟩;by_cases e:y=x
 ·subst e
  simp only[if_true];exact hrow (ho h3)
 ·simp only[if_neg e]
  exact hrow (row_belowU (h.2 y (by omega) h2 h3) hb)
theorem BV.skip{u:World}{bb np k x:Nat}{Pv:Nat->PV}{bv:Nat->Value}(h:BV u bb np k Pv bv)(hx:x=np-1-k)(hz:¬Zd Pv np x<2000):BV u bb np (k+1) Pv bv:=
 ⟨h.1,fun y h1 h2 h3=>by
   by_cases e:y=x
   ·subst e;exact absurd h3 hz
   ·exact h.2 y (by omega) h2 h3⟩
theorem implInline_any (bp np cap : Nat) (Pv : Nat -> PV) (blk : Nat -> Nat) (w : World) (ln : np <= 1048576) (lb : ∀ i, i < np -> (Pv i).n <= 1048576) (h : PCp w bp np Pv blk) :
 Calls Try.prog 7 #[.slice (some ⟨bp, 0, none⟩) np cap] w fun e w' => ∃ v, e = .returned v /\ w'.ownsRow w.heap.size 33 11 v (inlR Pv np).length (cs (inlR Pv np)) /\ Below w.heap.size w w' := by
 have H : Hid (PCp w bp np Pv blk) := h;have LB : Hid (∀ i, i < np -> (Pv i).n <= 1048576) := lb;clear h lb;obtain ⟨out, hout⟩ : ∃ x, inlR Pv np = x := ⟨_, rfl⟩
 rw [hout];have HOUT : Hid (inlR Pv np = out) := hout;clear hout;go_enter Try.func7, Try.ntmps7;go_wp2_with fail;refine (checkUnit_any bp np cap Pv blk w ln LB.out H.out).mono ?_;rintro e w1 ⟨aot, kt, ct, aoz, kz, cz', rfl, hb1, hok⟩;obtain ⟨res, hres⟩ : ∃ x, unitR Pv np = x := ⟨_, rfl⟩
 rw [hres] at hok ⊢;have HR : Hid (unitR Pv np = res) := hres;have B1 : Hid (Below w.heap.size w w1) := hb1;have OK : Hid (res.1 = 0 -> UOK w w1 Pv np (.slice aot kt ct) (.slice aoz kz cz')) := hok;clear hb1 hres hok;obtain ⟨x, y, z⟩ := res;have lw1 := B1.out.size;by_cases hx : x = 0
 rotate_left
 ·have ex : (x != 0) = true := by simp [hx]
  have ho : out = [] := by rw [<- HOUT.out, inlR, if_pos (by rw [HR.out]; exact hx)]
  subst ho;clear hx OK;go_wp2;go_ret;refine ⟨.slice (some ⟨w1.heap.size + 1, 0, none⟩) 0 0, rfl, ?_, (B1.out.alloc lw1 _).alloc (by simp; omega) _⟩;have h := World.ownsRow_lit (base := w.heap.size) (e := 33) (size := 11) (w1.alloc (.cells #[.int .i64 x, .int .i64 y, .int .i64 z, .slice aot kt ct, .slice aoz kz cz'] 57)) #[] 0 (by simp; omega) (by unfold maxLen; omega) rfl;rw [World.size_alloc] at h;exact h
 subst hx;have GD : Hid (UGood Pv np) := unit_good (by rw [HR.out]);have n1 : 1 <= np := GD.out.n1;have n20 : np <= 20 := GD.out.n20;have ho : out = Bdy Pv np 0 := by rw [<- HOUT.out, inlR, if_neg (by rw [HR.out]; simp)]
 subst ho;obtain ⟨g, ct2, zb, ht, hzv, q1, q2, q3, hZ, vs, hG, hRp⟩ := OK.out rfl;rw [ht, hzv];clear ht hzv OK;have hy0 : y = 0 /\ z = 0 := by
  have h := HR.out;unfold unitR at h;split at h
  ·simp at h
  ·split at h
   ·next h1 => rw [h] at h1; simp at h1
   ·split at h <;> simp at h <;> omega
 obtain ⟨rfl, rfl⟩ := hy0;go_upto_region 4 with fail;obtain ⟨u, hu, hbu, hcu⟩ : ∃ x, w1.alloc (.cells #[.int .i64 0, .int .i64 0, .int .i64 0, .slice (some ⟨g, 0, none⟩) np ct2, .slice (some ⟨zb, 0, none⟩) np np] 57) = x /\ Below w1.heap.size w1 x /\ Cl x w1.heap.size [.int .i64 0, .int .i64 0, .int .i64 0, .slice (some ⟨g, 0, none⟩) np ct2, .slice (some ⟨zb, 0, none⟩) np np] := ⟨_, rfl, (Below.refl _ _).alloc (Nat.le_refl _) _, Cl.new⟩
 rw [hu];have lgw : g < w1.heap.size := hG.1;have lzw : zb < w1.heap.size := hZ.1;have P0 : Hid (∀ v bb, u.heap.size <= bb -> Below u.heap.size u v -> IP w v w1.heap.size g ct2 zb bb np Pv vs) := fun v bb hbb hv => by
  have zu := hbu.size;have zc := hcu.1
  exact ⟨by omega, by omega, by omega, by omega, (B1.out.trans (hbu.mono lw1)).trans (hv.mono (by omega)), hcu.below hv, (hG.below hbu lgw).below hv (by omega), (hZ.below hbu lzw).below hv (by omega), fun i hi => ((hRp i hi).below hbu).kept2 (fun b _ h => by omega) (fun b _ h => hv.block b h)⟩
 have zu := hbu.size;have zc := hcu.1;clear hu hbu hcu hG hZ hRp;obtain ⟨iS, gS, gS0, gS1, gS2⟩ := info_parts info_stmtS;have HIS : Hid (_ /\ _ /\ _ /\ _) := ⟨gS, gS0, gS1, gS2⟩
 clear gS gS0 gS1 gS2;go_wp2_with (first | (at_make; refine wpList_make_full _ rfl _ _ 59 rfl u.heap.size 28 iS _ 1 Try.underlying59 HIS.out.1 HIS.out.2.1 HIS.out.2.2.1 .i64 .i64 _ _ np rfl rfl ?c1 ?c2 ?c3 ?c4 ?c5 ?_) | go_in)
 case c1 => rfl
 case c2 => rfl
 case c3 => rw [HIS.out.2.2.2]; omega
 case c4 => unfold maxLen; omega
 case c5 => exact Nat.le_refl _
 intro w2 hown hgrow;have hbel : Below u.heap.size u w2 := (Below.refl _ _).grown hgrow (Nat.le_refl _) (by intro k hk; cases hk);have harr : Arr w2 u.heap.size np (fun _ => .slice none 0 0) := by
  have := Arr.made (z := fun _ => .slice none 0 0) hown fun i hi => by rw [made_get _ _ _ (show i < np by omega)]; exact congrArg some (show (#[Value.slice none 0 0] : Array Value)[i % 1]! = _ by rw [Nat.mod_one]; rfl)
  rw [Nat.mul_one] at this;exact this
 have P1 : Hid (IP w w2 w1.heap.size g ct2 zb u.heap.size np Pv vs) := P0.out w2 _ (Nat.le_refl _) hbel;have V1 : Hid (BV w2 u.heap.size np 0 Pv (fun _ => .slice none 0 0)) := ⟨harr, fun x h1 h2 => by omega⟩
 clear hown hgrow hbel harr P0;generalize w1.heap.size = ub at *;generalize u.heap.size = bb at *;go_wp2;go_loopw [5] (fun iv wr => ∃ (k : Nat) (bv : Nat -> Value), k <= np /\ iv = .int .i64 ((np : Int) - 1 - (k : Int)) /\ IP w wr ub g ct2 zb bb np Pv vs /\ BV wr bb np k Pv bv) (fun iv _ => ((intOf iv) + 1).toNat)
 case atStart => exact ⟨0, _, Nat.zero_le _, by simp, P1.out, V1.out⟩
 case round =>
  obtain ⟨k, bv, hk, rfl, hp, hv⟩ := hrel;have P2 : Hid (IP w wr ub g ct2 zb bb np Pv vs) := hp;have V2 : Hid (BV wr bb np k Pv bv) := hv;have lbb := hv.1.lt;clear hp hv P1 V1;by_cases hlt : k < np
  rotate_left
  ·obtain rfl : k = np := by omega
   have hneg : ¬ ((k : Int) - 1 - (k : Int)) >= 0 := by omega
   have ho := V2.out.2 0 (by omega) (by omega) GD.out.z;obtain ⟨aoo, ko, co, hvo⟩ := row_slice ho;have c0 : wr.cell? ⟨bb, 0, none⟩ = some (.slice aoo ko co) := hvo ▸ V2.out.1.cell (i := 0) (by omega);have OO : Hid (wr.ownsRow w.heap.size 33 11 (.slice aoo ko co) (Bdy Pv k 0).length (cs (Bdy Pv k 0))) := (by rw [<- hvo]; exact ho.mono (by have := P2.out.l0; omega) : wr.ownsRow w.heap.size 33 11 (.slice aoo ko co) (Bdy Pv k 0).length (cs (Bdy Pv k 0)))
   have hk0 : (0 : Int) < (k : Int) := by omega
   clear ho hvo;go_wp2;go_ret
   exact ⟨_, rfl, OO.out, P2.out.bel⟩
  obtain ⟨x, hx⟩ : ∃ x : Nat, x = np - 1 - k := ⟨_, rfl⟩
  have hxi : (np : Int) - 1 - (k : Int) = (x : Int) := by omega
  rw [hxi];have hxq : x < np := by omega
  have hxq' : (x : Int) < (np : Int) := by omega
  have hx0 : (x : Int) >= 0 := by omega
  have HXX : Hid (x = np - 1 - k) := hx;have HXI : Hid ((np : Int) - 1 - (k : Int) = (x : Int)) := hxi;clear hx hxi;have y3 : wr.cell? ⟨ub, 3, none⟩ = some (.slice (some ⟨g, 0, none⟩) np ct2) := P2.out.U.2 3 (by simp);have y4 : wr.cell? ⟨ub, 4, none⟩ = some (.slice (some ⟨zb, 0, none⟩) np np) := P2.out.U.2 4 (by simp);have yl := P2.out.U.1;obtain ⟨zx, hzx⟩ : ∃ y, Zd Pv np x = y := ⟨_, rfl⟩
  have HZX : Hid (Zd Pv np x = zx) := hzx;have yz : wr.cell? ⟨zb, x, none⟩ = some (.int .i64 zx) := hzx ▸ P2.out.Z.cell hxq;have yg : wr.cell? ⟨g, x, none⟩ = some (vs x) := by have := P2.out.G.cell hxq; rwa [Nat.zero_add] at this
  have lz := P2.out.Z.lt;have lg := P2.out.G.lt;clear hzx;by_cases hz : zx < 2000
  rotate_left
  ·have V3 : Hid (BV wr bb np (k + 1) Pv bv) := V2.out.skip HXX.out (by rw [HZX.out]; exact hz)
   have hz' : ¬ zx < 2000 := hz;go_wp2;go_roundw
   case rel => exact ⟨k + 1, bv, by omega, by have := HXI.out; rw [show (np : Int) - 1 - ((k + 1 : Nat) : Int) = (x : Int) - 1 by omega], P2.out, V3.out⟩
   case measure => simp [intOf]
  ·have HZ : Hid (Zd Pv np x < 2000) := (by rw [HZX.out]; exact hz : Zd Pv np x < 2000)
   go_wp2_with fail;obtain ⟨hn5, hck⟩ := GD.out.c x hxq;have hc := addBlock_any wr (Bdy Pv np) (Pv x).L bb np np bv (x : Int) 16 (fun b => b < bb) V2.out.1.at ((Pv x).n + 1) 0 (Pv x).n 0 (vs x) (P2.out.R x hxq) (Nat.zero_le _) (by omega) hck (fun p _ hp k4 => by
    obtain ⟨c1, c2, c3⟩ := GD.out.calls hxq hp k4;exact (V2.out.2 _ (by have := HXX.out; omega) c2 (GD.out.small hxq HZ.out hp k4)).mono (Nat.zero_le _)) wr (.slice none 0 0) [] (Below.refl _ _) (World.ownsRow_nil _ _ _ _) (by
     have h := GD.out.part hxq HZ.out (Nat.zero_le (Pv x).n) (Nat.le_refl _);simp; omega)
   rw [List.nil_append, <- GD.out.body hxq] at hc;refine hc.mono ?_;rintro e w3 ⟨v3, rfl, ho3, hg3, _⟩;have hb3 : Below wr.heap.size wr w3 := (Below.refl _ _).grown hg3 (Nat.le_refl _) (by intro k hk; cases hk);have V3 : Hid (BV (w3.setCell ⟨bb, x, none⟩ v3) bb np (k + 1) Pv (fun i => if i = x then v3 else bv i)) := V2.out.next hlt HXX.out hb3 (fun _ => ho3.mono (by omega));have P3 : Hid (IP w (w3.setCell ⟨bb, x, none⟩ v3) ub g ct2 zb bb np Pv vs) := P2.out.kept ((show Below bb wr w3 from hb3.mono (by omega)).setCell (p := ⟨bb, x, none⟩) (Nat.le_refl _) _);have cx : w3.cell? ⟨bb, x, none⟩ = some (bv x) := (hb3.cell (p := ⟨bb, x, none⟩) lbb).trans (V2.out.1.cell hxq);have fx : ∀ i, w3.frozen? ⟨bb, i, none⟩ = false := fun i => (hb3.frozen (p := ⟨bb, i, none⟩) lbb).trans (V2.out.1.free i)
   have lx : bb < w3.heap.size := Nat.lt_of_lt_of_le lbb hb3.size;obtain ⟨ao3, k3, c3, rfl⟩ := row_slice ho3;clear hc ho3 hg3 hb3 hn5 hck y3 y4 yl yz yg lz lg;go_wp2;go_roundw
   case rel => exact ⟨k + 1, _, by omega, by have := HXI.out; rw [show (np : Int) - 1 - ((k + 1 : Nat) : Int) = (x : Int) - 1 by omega], P3.out, V3.out⟩
   case measure => simp [intOf]
end Go.Proofs.Ytplnpgohdgialaa
namespace Go.Proofs.Ytplnpgohdgialaa
open Go.RowKit Go.Deep
def nv0:NV:=⟨0,0,0,0,0,0⟩
def nvG(x:NV):Nat->Int
 |0=>x.op
 |1=>x.d
 |2=>x.a
 |3=>x.b
 |4=>x.imm
 |_=>x.h
def nvF(xs:List NV)(i j:Nat):Int:=nvG (xs.getD i nv0) j
theorem ci_getF(xs:List NV):∀p,p<xs.length*6->(ci xs)[p]?=some (insF (nvF xs) p):=by
 induction xs with
 |nil=>intro p h;simp at h
 |cons a l ih=>
  intro p h;show(inL a++ci l)[p]?=_;by_cases hp:p<6
  ·rw[List.getElem?_append_left (by show p<6;exact hp)]
   unfold insF nvF;rw[show p/6=0 by omega,show p%6=p by omega];match p,hp with
   |0,_=>rfl
   |1,_=>rfl
   |2,_=>rfl
   |3,_=>rfl
   |4,_=>rfl
   |5,_=>rfl
  ·rw[List.getElem?_append_right (by show 6<=p;omega)]
   show(ci l)[p-6]?=_;rw[ih (p-6) (by simp at h;omega)];unfold insF nvF;rw[show(p-6)/6=p/6-1 by omega,show(p-6)%6=p%6 by omega];obtain⟨q,hq⟩:∃q,p/6=q+1:=⟨p/6-1,by omega⟩
   rw[hq];rfl
theorem row_atI{w:World}{base e g c:Nat}{xs:List NV}(h:w.ownsRow base e 6 (.slice (some ⟨g,0,none⟩) xs.length c) xs.length (ci xs)):At w g 0 (xs.length*6) (insF (nvF xs)):=
 ⟨(h.lt g rfl).2,fun i hi=>by rw[Nat.zero_add,h.cellAt i (by omega)];exact ci_getF xs i hi⟩
def fnOf(xs:List SV):Nat->SV:=fun i=>xs.getD i sv0
theorem emb_fn(xs:List SV):Emb (fnOf xs) 0 xs:=fun j h=>by
 unfold fnOf;rw[Nat.zero_add,List.getD_eq_getElem?_getD,List.getElem?_eq_getElem h];rfl
structure OneG(xs:List SV):Prop where
 len:xs.length<=2000
 calls:∀s∈xs,s.k≠4
 low:flatOK (lowR (fnOf xs) xs.length).length (nvF (lowR (fnOf xs) xs.length))=true
 le:(lowR (fnOf xs) xs.length).length<=2000
 one:∀c,(unitR (fun _=>⟨xs.length,fnOf xs,c⟩) 1).1=0∨(unitR (fun _=>⟨xs.length,fnOf xs,c⟩) 1).1=1∨(unitR (fun _=>⟨xs.length,fnOf xs,c⟩) 1).1=4
theorem one_good{Pv:Nat->PV}{np:Nat}(h:(unitR Pv np).1=0):OneG (inlR Pv np):=by
 have g:=unit_good h;have e:inlR Pv np=Bdy Pv np 0:=by unfold inlR;rw[if_neg (by rw[h];decide)]
 rw[e];obtain⟨xs,hxs⟩:∃x,Bdy Pv np 0=x:=⟨_,rfl⟩
 obtain⟨z,hz⟩:∃x,Zd Pv np 0=x:=⟨_,rfl⟩
 have z2:z<2000:=by rw[<-hz];exact g.z
 have B:=body_blk g np 0 (by omega) g.n1 (by rw[hz];exact z2);rw[hxs,hz]at B;rw[hxs];have B2:Blk 320 z xs:=B.mono (by have:=g.n20;omega);have lp:=B2.pos;have em:=emb_fn xs;have hl:xs.length<=2000:=by omega
 have hck:=(B2.chk (fnOf xs) 0 0 321 0 0 xs.length em (by omega)).2 (by omega);have hsz:∀Z,szTo (fnOf xs) Z xs.length=z:=fun Z=>by
  have:=B2.size (fnOf xs) Z 0 em;rw[Nat.zero_add,show szTo (fnOf xs) Z 0=0 from rfl,Int.zero_add]at this;exact this
 have hr:runB (fnOf xs) xs.length:=⟨hl,hck,by rw[hsz];exact z2⟩
 obtain⟨m,hm⟩:∃m:Nat,z=(m:Int):=⟨z.toNat,by omega⟩
 obtain⟨l1,l2⟩:=B2.low (fnOf xs) 0 0 xs.length m em (by omega) (by omega) (by omega);have er:lowR (fnOf xs) xs.length=lowB (fnOf xs) 0 0 xs.length++[jmpV 34 0]:=by unfold lowR;rw[if_pos hr]
 rw[hm]at l1;have l1':(lowB (fnOf xs) 0 0 xs.length).length=m:=by omega
 refine⟨hl,B2.calls,?_,?_,fun c=>?_⟩
 ·rw[er]
  obtain⟨ys,hys⟩:∃y,lowB (fnOf xs) 0 0 xs.length=y:=⟨_,rfl⟩
  rw[hys]at l1' l2⊢;have hlen:(ys++[jmpV 34 0]).length=m+1:=by simp[l1']
  rw[flat_end (by omega) (by omega) (fun i hi=>?_),hlen,Nat.add_sub_cancel]
  ·show(nvG ((ys++[jmpV 34 0]).getD m nv0) 0==34)=true
   rw[List.getD_eq_getElem?_getD,List.getElem?_append_right (by omega),show m-ys.length=0 by omega];rfl
  ·show(implIns _ _ _ _ _ _&&_)=true
   by_cases him:i<ys.length
   ·have e1:(ys++[jmpV 34 0]).getD i nv0=ys[i]:=by
     rw[List.getD_eq_getElem?_getD,List.getElem?_append_left him,List.getElem?_eq_getElem him];rfl
    have hy:=l2 ys[i] (List.getElem_mem him);unfold nvF;rw[e1,hlen];simp only[nvG];rw[hy.1];cases hj:jumpB ys[i].op with
    |false=>rfl
    |true=>
     have:=hy.2 hj;simp;omega
   ·have e1:(ys++[jmpV 34 0]).getD i nv0=jmpV 34 0:=by
     rw[List.getD_eq_getElem?_getD,List.getElem?_append_right (by omega),show i-ys.length=0 by omega];rfl
    unfold nvF;rw[e1];rfl
 ·rw[er];simp[l1'];omega
 ·have h1:=(B2.chk (fnOf xs) 0 1 16 0 0 xs.length em (by omega)).1
  unfold unitR;rw[if_neg (by omega)];have hz1:¬(2000<zs (fun _=>⟨xs.length,fnOf xs,c⟩) 1 1 0+1):=by
   have e3:zs (fun _=>⟨xs.length,fnOf xs,c⟩) 1 1 0=capI (szTo (fnOf xs) (zs (fun _=>⟨xs.length,fnOf xs,c⟩) 1 0) xs.length):=rfl;rw[e3,hsz];unfold capI;rw[if_neg (by omega)];omega
  rw[if_neg hz1];show(if(findBad (fun _=>⟨xs.length,fnOf xs,c⟩) 1 1 0).1≠0 then _ else _:Int×Int×Int).1=0∨_;have hf:(findBad (fun _=>⟨xs.length,fnOf xs,c⟩) 1 1 0).1=0∨(findBad (fun _=>⟨xs.length,fnOf xs,c⟩) 1 1 0).1=1∨(findBad (fun _=>⟨xs.length,fnOf xs,c⟩) 1 1 0).1=4:=by
   have e2:findBad (fun _=>⟨xs.length,fnOf xs,c⟩) 1 1 0=if 500<xs.length then(1,((0:Nat):Int),0)else if(chk (fnOf xs) ((0:Nat):Int) ((1:Nat):Int) 16 0 xs.length 0).1≠0 then((chk (fnOf xs) ((0:Nat):Int) ((1:Nat):Int) 16 0 xs.length 0).1,((0:Nat):Int),(chk (fnOf xs) ((0:Nat):Int) ((1:Nat):Int) 16 0 xs.length 0).2)else(0,0,0):=rfl;rw[e2];split
   ·exact .inr (.inl rfl)
   ·split
    ·rcases h1 with h1|h1
     ·exact .inl h1
     ·exact .inr (.inr h1)
    ·exact .inl rfl
  by_cases hb:(findBad (fun _=>⟨xs.length,fnOf xs,c⟩) 1 1 0).1≠0
  ·rw[if_pos hb];exact hf
  ·rw[if_neg hb];exact .inl rfl
def RB(u:World)(q:Nat)(r:Int×Int×Int):Prop:=Cl u q [.int .i64 r.1,.int .i64 r.2.1,.int .i64 r.2.2]
theorem RB.below{u u':World}{q:Nat}{r:Int×Int×Int}(h:RB u q r)(f:Below u.heap.size u u'):RB u' q r:=Cl.below h f
theorem RB.cells{u:World}{q:Nat}{r:Int×Int×Int}(h:RB u q r):u.cell? ⟨q,0,none⟩=some (.int .i64 r.1)/\u.cell? ⟨q,1,none⟩=some (.int .i64 r.2.1)/\u.cell? ⟨q,2,none⟩=some (.int .i64 r.2.2):=⟨h.2 0 (by simp),h.2 1 (by simp),h.2 2 (by simp)⟩
theorem row_sl{u:World}{B e s n:Nat}{v:Value}{xs:List Value}(h:u.ownsRow B e s v n xs):∃ao c,v=.slice ao n c:=by
 rcases h.2 with⟨h',h0⟩|⟨g,cap,cur,h',_⟩
 ·subst h0;exact⟨none,0,h'⟩
 ·exact⟨_,_,h'⟩
theorem row_some2'{w:World}{base e size n:Nat}{v:Value}{xs:List Value}(h:w.ownsRow base e size v n xs)(hn:0<n):∃g c,v=.slice (some ⟨g,0,none⟩) n c:=by
 rcases h.2 with⟨_,h0⟩|⟨g,cap,cur,h',_⟩
 ·omega
 ·exact⟨g,cap,h'⟩
structure LG(w5:World)(v:Value)(xs:List SV):Prop where
 one:∀u bp,Below w5.heap.size w5 u->bp<u.heap.size->(∀i,u.frozen? ⟨bp,i,none⟩=false)->u.cell? ⟨bp,0,none⟩=some v->Calls Try.prog 6 #[.slice (some ⟨bp,0,none⟩) 1 1] u fun e w'=>∃x y z:Int,e=.returned (.agg #[.int .i64 x,.int .i64 y,.int .i64 z])/\(x=0∨x=1∨x=4)/\Below u.heap.size u w'
 low:∀u,Below w5.heap.size w5 u->Calls Try.prog 11 #[v] u fun e w'=>∃(g c:Nat),e=.returned (.slice (some ⟨g,0,none⟩) (lowR (fnOf xs) xs.length).length c)/\At w' g 0 ((lowR (fnOf xs) xs.length).length*6) (insF (nvF (lowR (fnOf xs) xs.length)))/\Below u.heap.size u w'
 same:∀u g c B,Below w5.heap.size w5 u->u.ownsRow B 33 11 (.slice (some ⟨g,0,none⟩) xs.length c) xs.length (cs xs)->Calls Try.prog 8 #[v,.slice (some ⟨g,0,none⟩) xs.length c] u fun e w'=>e=.returned (.bool true)/\Below u.heap.size u w'
theorem lg_of{w5:World}{B:Nat}{v:Value}{xs:List SV}(o:w5.ownsRow B 33 11 v xs.length (cs xs))(G:OneG xs):LG w5 v xs:=by
 have hl1:1<=(lowR (fnOf xs) xs.length).length:=by
  have:=G.low;unfold flatOK at this;simp at this;omega
 rcases o.2 with⟨h',h0⟩|⟨g,cap,cur,h',_⟩
 ·subst h'
  have h0':xs=[]:=List.length_eq_zero_iff.1 h0;subst h0';refine⟨fun u bp _ hl hf hc=>(implUnit_nil bp 1 u hl hc).mono ?_,fun u _=>(implLower_nil (fnOf []) u).mono ?_,fun u g c B _ ro=>lwStmts_nil _ _ _ _ _⟩
  ·rintro e w'⟨rfl,hb⟩
   exact⟨0,0,0,rfl,.inl rfl,hb⟩
  ·rintro e w'⟨lv,rfl,ro,hb⟩
   obtain⟨g,c,rfl⟩:=row_some2' ro hl1;exact⟨g,c,rfl,row_atI ro,hb⟩
 ·subst h'
  have A:=row_arrS o;have hc:xs.length<=cap:=row_cap o;have ln:xs.length<=1048576:=by have:=G.len;omega
  refine⟨fun u bp hb hl hf hcl=>(implUnit_any bp 1 1 (fun _=>⟨xs.length,fnOf xs,cap⟩) (fun _=>g) u (by omega) (fun _ _=>ln) ⟨⟨hl,hf,fun i hi=>by rw[show i=0 by omega];exact hcl⟩,fun i _=>A.below hb A.lt,fun _ _=>hc⟩).mono ?_,fun u hb=>(implLower_any g xs.length cap (fnOf xs) u ln (A.below hb A.lt)).mono ?_,fun u g' c' B hb ro=>lwStmts_same _ _ _ _ _ (fnOf xs) u ln (A.below hb A.lt) (row_arrS ro)⟩
  ·rintro e w'⟨rfl,hb⟩
   exact⟨_,_,_,rfl,G.one cap,hb⟩
  ·rintro e w'⟨lv,rfl,ro,hb⟩
   obtain⟨g,c,rfl⟩:=row_some2' ro hl1;exact⟨g,c,rfl,row_atI ro,hb⟩
theorem lawUnit_walk(ao:Option Addr)(n cap:Nat)(w:World)(hn:n<=1048576)(hr:Bytes0 w w.heap.size ao n):
 Calls Try.prog 3 #[.slice ao n cap] w fun e w'=>e=.returned (.bool true)/\Below w.heap.size w w':=by
 have HR:Hid (Bytes0 w w.heap.size ao n):=hr
 clear hr
 have hn':(n:Int)<=1048576:=by omega
 go_enter Try.func3,Try.ntmps3
 go_wp2_with fail
 refine(drawInline_any ao n cap w hn HR.out).mono ?_
 rintro e w2⟨g,gc,ps,rfl,l1,l2,ro,pw,hb2⟩
 have B2:Hid (Below w.heap.size w w2):=hb2
 have PC2:Hid (PCp w2 g ps.length (pvOf ps) (blkOf ps)/\∀i,i<ps.length->(pvOf ps i).n<=1048576):=pcp_of ro pw
 obtain⟨np,hnp⟩:∃l,ps.length=l:=⟨_,rfl⟩
 obtain⟨Pv,hPv⟩:∃P,pvOf ps=P:=⟨_,rfl⟩
 obtain⟨blk,hblk⟩:∃P,blkOf ps=P:=⟨_,rfl⟩
 rw[hnp,hPv,hblk]at PC2
 rw[hnp]at l1 l2⊢
 have LB:Hid (∀i,i<np->(Pv i).n<=1048576):=PC2.out.2
 have P2:Hid (PCp w2 g np Pv blk):=PC2.out.1
 have ln:np<=1048576:=by omega
 clear PC2 hnp hPv hblk ro pw hb2 HR
 obtain⟨r,hr⟩:∃r,unitR Pv np=r:=⟨_,rfl⟩
 have HU:Hid (unitR Pv np=r):=hr
 clear hr
 go_wp2_with fail
 refine(specUnit_any g np gc Pv blk w2 ln LB.out P2.out).mono ?_
 rintro e w3⟨rfl,hb3⟩
 rw[HU.out]
 go_upto_region 5 with fail
 obtain⟨u,hu,hbu,rb⟩:∃v,w3.alloc (.cells #[.int .i64 r.1,.int .i64 r.2.1,.int .i64 r.2.2] 26)=v/\Below w3.heap.size w3 v/\RB v w3.heap.size r:=⟨_,rfl,(Below.refl _ _).alloc (Nat.le_refl _) _,Cl.new⟩
 rw[hu]
 obtain⟨q,hq⟩:∃p,w3.heap.size=p:=⟨_,rfl⟩
 have P3:Hid (PCp u g np Pv blk):=(P2.out.below hb3).below hbu
 have B3:Hid (Below w.heap.size w u):=(B2.out.trans (hb3.mono B2.out.size)).trans (hbu.mono (Nat.le_trans B2.out.size hb3.size))
 rw[hq]at rb⊢
 have R3:Hid (RB u q r):=rb
 clear hu hq hbu rb hb3 B2 P2
 have c0:∀w',Below u.heap.size u w'->w'.cell? ⟨q,0,none⟩=some (.int .i64 r.1):=fun w' h=>(R3.out.below h).cells.1
 have c1:∀w',Below u.heap.size u w'->w'.cell? ⟨q,1,none⟩=some (.int .i64 r.2.1):=fun w' h=>(R3.out.below h).cells.2.1
 have c2:∀w',Below u.heap.size u w'->w'.cell? ⟨q,2,none⟩=some (.int .i64 r.2.2):=fun w' h=>(R3.out.below h).cells.2.2
 refine wp_region_held_drew (S:=fun w'=>Below u.heap.size u w') (by kernel_rfl) (Below.refl _ _).drew (fun _=>?_)
 refine wpAnyH_tk 0 ?k1v rfl ?k1y ?k1r
 case k1y=>(intro w hSw;(try dsimp only at hSw);go_simp;try with_reducible rfl)
 try simp only[Act.put,List.getElem_toArray,List.getElem_cons_zero,List.setIfInBounds_toArray,List.set_cons_zero,List.set_cons_succ]
 refine wpAnyH_tk 2 ?k2v rfl ?k2y ?k2r
 case k2y=>(intro w hSw;(try dsimp only at hSw);go_simp;try with_reducible rfl)
 try simp only[Act.put,List.getElem_toArray,List.getElem_cons_zero,List.getElem_cons_succ,List.setIfInBounds_toArray,List.set_cons_zero,List.set_cons_succ]
 refine wpAnyH_ready (rs:=[1]) (by kernel_rfl) (by simp) ?_
 refine AllReadyH.cons rfl (fun KK hK=>?_) AllReadyH.nil
 go_simp
 refine(implUnit_any g np gc Pv blk _ ln LB.out (P3.out.below (Below.refl _ _).drew)).mono ?_
 rintro e w4⟨rfl,hb4⟩
 rw[HU.out]
 have hb4':Below u.heap.size u w4:=(Below.refl _ _).drew.trans hb4
 go_wp2_with fail
 refine hK.out _ _ hb4' (fun _=>?_)
 clear hK KK hb4
 try simp only[Act.put,List.getElem_toArray,List.getElem_cons_zero,List.getElem_cons_succ,List.setIfInBounds_toArray,List.set_cons_zero,List.set_cons_succ]
 refine wpAnyH_tk 3 ?k3v rfl ?k3y ?k3r
 case k3y=>(intro w hSw;(try dsimp only at hSw);go_simp;try with_reducible rfl)
 try simp only[Act.put,List.getElem_toArray,List.getElem_cons_zero,List.getElem_cons_succ,List.setIfInBounds_toArray,List.set_cons_zero,List.set_cons_succ]
 refine wpAnyH_done (by kernel_rfl) ?_ _
 have P4:Hid (PCp w4 g np Pv blk):=P3.out.below hb4'
 have B4:Hid (Below w.heap.size w w4):=B3.out.trans (hb4'.mono B3.out.size)
 have R4:Hid (RB w4 q r):=R3.out.below hb4'
 clear c0 c1 c2 hb4' P3 B3 R3
 go_wp2_with fail
 refine(implInline_any g np gc Pv blk w4 ln LB.out P4.out).mono ?_
 rintro e w5⟨v,rfl,o5,hb5⟩
 have P5:Hid (PCp w5 g np Pv blk):=P4.out.below hb5
 have B5:Hid (Below w.heap.size w w5):=B4.out.trans (hb5.mono B4.out.size)
 have R5:Hid (RB w5 q r):=R4.out.below hb5
 have O5:Hid (w5.ownsRow w4.heap.size 33 11 v (inlR Pv np).length (cs (inlR Pv np))):=o5
 clear o5 hb5 P4 B4 R4
 obtain⟨vo,vc,rfl⟩:=row_sl O5.out
 obtain⟨xs,hxs⟩:∃x,inlR Pv np=x:=⟨_,rfl⟩
 have HX:Hid (inlR Pv np=xs):=hxs
 rw[hxs]at O5⊢
 clear hxs
 have q0:=R5.out.cells.1
 have ql:=R5.out.1
 by_cases hr0:r.1=0
 rotate_left
 ·have hx0:xs.length=0:=by rw[<-HX.out,inlR,if_pos (by rw[HU.out];exact hr0)];rfl
  have hr0':(r.1 !=0)=true:=by simp[hr0]
  rw[hx0]
  clear hr0 hx0
  go_wp2_with fail
  go_ret
  exact⟨rfl,B5.out⟩
 have hr0':(r.1 !=0)=false:=by simp[hr0]
 have G:Hid (OneG xs):=(by rw[<-HX.out];exact one_good (by rw[HU.out];exact hr0):OneG xs)
 clear hr0
 have LGG:Hid (LG w5 (.slice vo xs.length vc) xs):=lg_of O5.out G.out
 go_upto_block 0 with fail
 go_cut [5,6](fun s5 _ wx=>s5=.slice vo xs.length vc/\wx=w5)
 case first=>
  have hlen:xs.length<=2000:=G.out.len
  rcases O5.out.2 with⟨h',h0⟩|⟨vg,cap',cur,h',_⟩
  ·obtain⟨rfl,h0',rfl⟩:vo=none/\xs.length=0/\vc=0:=by simpa using h'
   have hz:¬(0:Int)<(xs.length:Int):=by omega
   clear h' h0 h0' hlen
   go_wp2_with fail
   refine wp_loop_rounds 1 ?_
   rw[rounds_succ]
   go_wp2
   go_meet
   exact⟨rfl,rfl⟩
  ·obtain⟨rfl,rfl⟩:vo=some ⟨vg,0,none⟩/\vc=cap':=by simpa using h'
   have HA:Hid (Arr w5 vg (xs.length*11) (stF (fnOf xs))):=row_arrS O5.out
   have hvl:=HA.out.lt
   have HCL:Hid (∀k,k<xs.length->(fnOf xs k).k≠4):=fun k hk=>by
    refine G.out.calls _ ?_
    unfold fnOf
    rw[List.getD_eq_getElem?_getD,List.getElem?_eq_getElem hk]
    exact List.getElem_mem hk
   clear h'
   go_wp2_with fail
   go_loopw [6](fun iv wr=>∃k:Nat,k<=xs.length/\iv=.int .i64 (k:Int)/\wr=w5)(fun iv _=>xs.length-(intOf iv).toNat)
   case atStart=>exact⟨0,Nat.zero_le _,rfl,rfl⟩
   case round=>
    obtain⟨k,hk,rfl,rfl⟩:=hrel
    by_cases hlt:k<xs.length
    ·have hlt':(k:Int)<(xs.length:Int):=by omega
     have g0:wr.cell? ⟨vg,k*11,none⟩=some (.int .i64 (fnOf xs k).k):=(HA.out.cell (i:=k*11+0) (by omega)).trans (congrArg some (stF_at (fnOf xs) k 0 (by omega)))
     have hk4:((fnOf xs k).k==4)=false:=by simpa using HCL.out k hlt
     go_wp2
     go_roundw
     case rel=>exact⟨k+1,by omega,by go_num,by first|rfl|trivial⟩
     case measure=>simp[intOf];omega
    ·go_wp2
     go_meet
     exact⟨rfl,rfl⟩
 case rest=>
 obtain⟨rfl,rfl⟩:=hcut
 clear O5
 clear q0 ql
 go_wp2_with fail
 obtain⟨u,hu,hbu,hcu,hfu⟩:∃v,wc.alloc (.cells #[.slice vo xs.length vc] 35)=v/\Below wc.heap.size wc v/\Cl v wc.heap.size [.slice vo xs.length vc]/\∀i,v.frozen? ⟨wc.heap.size,i,none⟩=false:=⟨_,rfl,(Below.refl _ _).alloc (Nat.le_refl _) _,Cl.new,fun i=>by simp[go_sem]⟩
 rw[hu]
 refine(LGG.out.one u wc.heap.size hbu hcu.1 hfu (hcu.2 0 (by simp))).mono ?_
 rintro e w6⟨x,y,z,rfl,hx,hb6⟩
 have bel6:Below wc.heap.size wc w6:=hbu.trans (hb6.mono hbu.size)
 clear hu hcu hfu hbu hb6
 have HX6:Hid (x=0∨x=1∨x=4):=hx
 clear hx
 go_upto_region 16 with fail
 obtain⟨u,hu,hbu,rb⟩:∃v,w6.alloc (.cells #[.int .i64 x,.int .i64 y,.int .i64 z] 26)=v/\Below w6.heap.size w6 v/\RB v w6.heap.size (x,y,z):=⟨_,rfl,(Below.refl _ _).alloc (Nat.le_refl _) _,Cl.new⟩
 rw[hu]
 obtain⟨q7,hq⟩:∃p,w6.heap.size=p:=⟨_,rfl⟩
 have E7:Hid (Below wc.heap.size wc u):=bel6.trans (hbu.mono bel6.size)
 rw[hq]at rb⊢
 have R7:Hid (RB u q7 (x,y,z)):=rb
 clear hu hq hbu rb bel6
 go_wp2_with fail
 refine(specInline_any g np gc Pv blk u ln LB.out (P5.out.below E7.out)).mono ?_
 rintro e w8⟨g8,c8,rfl,o8,hb8⟩
 rw[HX.out]at o8⊢
 have E8:Hid (Below wc.heap.size wc w8):=E7.out.trans (hb8.mono E7.out.size)
 have R8:Hid (RB w8 q7 (x,y,z)):=R7.out.below hb8
 have O8:Hid (w8.ownsRow u.heap.size 33 11 (.slice (some ⟨g8,0,none⟩) xs.length c8) xs.length (cs xs)):=o8
 clear o8 hb8 E7 R7
 go_wp2_with fail
 refine(LGG.out.same w8 g8 c8 _ E8.out O8.out).mono ?_
 rintro e w9⟨rfl,hb9⟩
 have E9:Hid (Below wc.heap.size wc w9):=E8.out.trans (hb9.mono E8.out.size)
 have R9:Hid (RB w9 q7 (x,y,z)):=R8.out.below hb9
 clear hb9 E8 R8 O8
 go_wp2_with fail
 refine(LGG.out.low w9 E9.out).mono ?_
 rintro e w10⟨g10,c10,rfl,a10,hb10⟩
 have E10:Hid (Below wc.heap.size wc w10):=E9.out.trans (hb10.mono E9.out.size)
 have R10:Hid (RB w10 q7 (x,y,z)):=R9.out.below hb10
 have A10:Hid (At w10 g10 0 ((lowR (fnOf xs) xs.length).length*6) (insF (nvF (lowR (fnOf xs) xs.length)))):=a10
 clear hb10 a10 E9 R9
 go_wp2_with fail
 refine(specFlat_any g10 0 _ c10 (nvF (lowR (fnOf xs) xs.length)) w10 (by have:=G.out.le;omega) A10.out).mono ?_
 rintro e w11⟨rfl,hb11⟩
 rw[G.out.low]
 have E11:Hid (Below wc.heap.size wc w11):=E10.out.trans (hb11.mono E10.out.size)
 have c0:=(R10.out.below hb11).cells.1
 have cl:=(R10.out.below hb11).1
 have BF:Hid (Below w.heap.size w w11):=B5.out.trans (E11.out.mono B5.out.size)
 clear hb11 E10 R10 A10
 rcases HX6.out with rfl|rfl|rfl
 ·go_wp2
  go_ret
  exact⟨rfl,BF.out⟩
 ·go_wp2
  go_ret
  exact⟨rfl,BF.out⟩
 ·go_wp2
  go_ret
  exact⟨rfl,BF.out⟩
end Go.Proofs.Ytplnpgohdgialaa
namespace Go.Proofs.Ytplnpgohdgialaa
open Go.ChangeShapes Go.WideShapes Go.ChangeAt Go.RowKit Go.Deep
theorem lawUnit_great(ao:Option Addr)(n cap:Nat)(w:World)(h:1048576<n)(hm:n<=maxLen):
 Calls Try.prog 3 #[.slice ao n cap] w fun e w'=>e=.returned (.bool true)/\Below w.heap.size w w':=by
 unfold maxLen at hm;have h':(1048576:Int)<n:=by omega
 clear h;go_enter Try.func3,Try.ntmps3;go_wp2;go_ret;exact⟨rfl,Below.refl _ _⟩
theorem fr_u8:Try.prog.cellsOf 5=1:=by kernel_rfl
theorem fr_wf{n:Int}(h:(Lit.int .u8 n).wf=true):0<=n/\n<=255:=by
 simpa[Lit.wf,IntKind.min,IntKind.max,IntKind.signed,IntKind.bits]using h
theorem fr_open{H:Type}{enc:TypeId×Value->H}{w:World}{base:Nat}{spare:Nat->Bool}{held:Bool}{fuel:Nat}{ao:Option Addr}{len cap:Nat}{x:DataW H×List MemPlace}
 (h:DataW.trod enc Try.prog w base spare held fuel 22 [.slice ao len cap]=some x):len<=maxLen/\Bytes0 w w.heap.size ao len:=by
 obtain⟨hm,f,hin,hel⟩:=open_row Try.underlying22 fr_u8 (by omega) h;refine⟨hm,?_⟩;rw[Nat.mul_one]at hin;rcases hin with h0|⟨b,off,h1,h2⟩
 ·exact .inl h0
 ·refine .inr ⟨b,off,h1,h2.lt,fun i hi=>?_⟩
  obtain⟨n,y,hy⟩:=hel i hi;simp[List.range,List.range.loop]at hy;obtain⟨r,e1,_,wb⟩:=DataW.trod_int Try.underlying5 hy;simp at e1;exact⟨r,(fr_wf wb).1,(fr_wf wb).2,by rw[h2.cell hi,e1]⟩
theorem fnUnit_lifted(os:Os)(started:os.Started)(H:Type)(enc:TypeId×Value->H):
 ReturnsInHanded {} Try.checked os 3 .any (Rows.fnUnitSpec.pre6 enc Try.prog Try.f3 Rows.fnUnitRow.domain false) (Rows.fnUnitSpec.post enc Try.prog Try.f3 false true false false):=by
 refine returnsInHanded_of_change (C:=Try.checked) (by kernel_rfl:ownKnob Try.prog.godebug=none) started (by kernel_rfl) Try.func3
  (ChangeSpec.witness6 (enc:=enc) (C:=Try.checked) false ⟨#[],#[.slice none 0 0],[]⟩ 8 (by kernel_rfl) (by kernel_rfl) (by kernel_rfl) (by kernel_rfl)) ?_
 intro W base args ds gs before hval0 hW _ _;have hval:∀(j:Nat)t v,Try.f3.params[j]?=some t->args[j]?=some v->Value.okWide Try.prog W .any base t v:=hval0;have hW':=hW;obtain⟨p,q,hA0,hV,rfl,_,_⟩:=hW;have hA:DataW.TrodAll enc Try.prog W 0 (fun _=>true) true Try.f3.params.toList args.toList ds p:=hA0;rw[Try.params3]at hA hval;obtain⟨v0,d0,rfl,rfl,h0⟩:=trodAll_one hA;obtain⟨rfl,rfl⟩:=trodVars_none hV;obtain⟨ao0,n0,cap0,rfl⟩:=okWide_slice Try.underlying22 (hval 0 22 v0 rfl rfl);have k0:=h0;have lt0:∀x∈p,x.block<W.heap.size:=by obtain⟨m,hm⟩:=k0;exact DataW.trod_lt m _ _ _ hm
 obtain⟨fuel0,hf0⟩:=h0;obtain⟨m0,b0⟩:=fr_open (by simpa[Value.cells]using hf0);clear hA0 hval0;have fin:∀(e:Ending)(W':World),e=.returned (.bool true)/\Below W.heap.size W W'->∃v,e=.returned v/\Rows.fnUnitSpec.post enc Try.prog Try.f3 false true false false W #[.slice ao0 n0 cap0] v W':=by
  rintro e W'⟨he,bel⟩;subst he;exact⟨_,rfl,_,_,_,[],_,[],hW',trodAll_mk1 (shut_bool Try.underlying4 _),trodAll_mk1 (Below.trod (by kernel_rfl:laidOutB Try.prog=true) (by kernel_rfl) (of_decide_eq_true (by kernel_rfl)) k0 bel lt0),rfl,bel.frame _,fun h=>by cases h⟩
 by_cases hl:n0<=1048576
 ·exact(lawUnit_walk ao0 n0 cap0 W hl b0).mono fin
 ·exact(lawUnit_great ao0 n0 cap0 W (by omega) m0).mono fin
theorem fnUnit_holds:Rows.FnUnitSaid:=
 OpenClaim.holds_of_wide 3 Try.f3 rfl rfl rfl rfl rfl rfl rfl ⟨rfl,rfl,rfl,rfl,rfl⟩ rfl rfl rfl rfl rfl (by kernel_rfl) Try.func3 (by kernel_rfl)
  (of_decide_eq_true (by kernel_rfl)) (by unfold Func.isWrapper;first|(rw[if_pos (by decide+kernel)];kernel_rfl)|(rw[if_neg (by decide+kernel)];exact⟨rfl,rfl⟩))
  (fun os started H enc _=>fnUnit_lifted os started H enc)
end Go.Proofs.Ytplnpgohdgialaa
