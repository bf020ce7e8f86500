import Derived.Test.YtfpeecaaleijcaaGreatDoorOfCl
import Derived.Test.YtfpeecaaleijcaaGreatDoorOfFtSpoil
import Derived.Test.YtfpeecaaleijcaaGreatDoorOfPzBody
import Derived.Test.YtfpeecaaleijcaaGreatDoorOfFsMath
import Derived.Test.YtfpeecaaleijcaaGreatDoorOfPzSpec
import Derived.Test.YtfpeecaaleijcaaGreatDoorOfPzKind
set_option maxHeartbeats 16000000
set_option maxRecDepth 20000
namespace Go.Proofs.YtfpeecaaleijcaaGreatDoor
open Go.RowKit Go.Deep
variable {B b base e n p:Nat}{v:Value}{u w:World}
structure LS(w:World)(p:Nat)(ao:Option Addr)(n cap:Nat)(r q:Nat)(d:Int)(vH vR vP:Value)(u:World):Prop where
 F:Fw p w u
 K:Bj u p ao n cap
 Z:u.heap[r]?=some (.cells #[Vi 0,.slice none 0 0,.slice none 0 0,.slice none 0 0] 29)
 X:u.heap[q]?=some (.cells #[Vi d,vH,vR,vP] 29)
 pw:p<w.heap.size
 wr:w.heap.size<=r
 rq:r<q
section
variable{w:World}{p:Nat}{ao:Option Addr}{n cap r q:Nat}{d d':Int}{vH vR vP vH' vR' vP':Value}{u u':World}
theorem LS.fw(h:LS w p ao n cap r q d vH vR vP u)(f:Fw p u u')(c:Bj u' p ao n cap):LS w p ao n cap r q d vH vR vP u':=
 ⟨h.F.trans f,c,CJ h.Z f (by have:=h.pw;have:=h.wr;omega),CJ h.X f (by have:=h.pw;have:=h.wr;have:=h.rq;omega),h.pw,h.wr,h.rq⟩
theorem LS.below(h:LS w p ao n cap r q d vH vR vP u)(f:Below u.heap.size u u'):LS w p ao n cap r q d vH vR vP u':=h.fw (.of_below f) (h.K.below f)
theorem LS.cells(h:LS w p ao n cap r q d vH vR vP u):u.cell? (Va q 0)=some (Vi d)/\u.cell? (Va q 1)=some vH/\u.cell? (Va q 2)=some vR/\u.cell? (Va q 3)=some vP/\(∀i,u.frozen? (Va q i)=false)/\q<u.heap.size:=
 ⟨(AY h.X 0).trans rfl,(AY h.X 1).trans rfl,(AY h.X 2).trans rfl,(AY h.X 3).trans rfl,Cr h.X,Bb h.X⟩
theorem LS.put(h:LS w p ao n cap r q d vH vR vP u)(j:Nat)(v:Value)(e:(#[Vi d,vH,vR,vP]:Array Value).setIfInBounds j v=#[Vi d',vH',vR',vP']):LS w p ao n cap r q d' vH' vR' vP' (u.setCell (Va q j) v):=by
 have o1:=h.pw;have o2:=h.wr;have o3:=h.rq;exact⟨h.F.put (by omega) _ _,h.K.put (by omega) _ _,Av h.Z (by omega) _ _,e▸Ci h.X j v,o1,o2,o3⟩
end
theorem dA(w:World)(p:Nat)(ao:Option Addr)(n cap:Nat)(hc:Bj w p ao n cap):LS w p ao n cap w.heap.size (w.heap.size+1) 0 (.slice none 0 0) (.slice none 0 0) (.slice none 0 0) ((w.alloc (.cells #[Vi 0,.slice none 0 0,.slice none 0 0,.slice none 0 0] 29)).alloc (.cells #[Vi 0,.slice none 0 0,.slice none 0 0,.slice none 0 0] 29)):=by
 have b:Below w.heap.size w ((w.alloc (.cells #[Vi 0,.slice none 0 0,.slice none 0 0,.slice none 0 0] 29)).alloc (.cells #[Vi 0,.slice none 0 0,.slice none 0 0,.slice none 0 0] 29)):=(Ak).alloc (by simp) _;have e1:(w.alloc (.cells #[Vi 0,.slice none 0 0,.slice none 0 0,.slice none 0 0] 29)).heap.size=w.heap.size+1:=by simp
 refine⟨.of_below b,hc.below b,?_,?_,hc.lt,jG,by omega⟩
 ·exact Aw (Bh w _) Ak
 ·rw[<-e1];exact Bh _ _
structure LD(bH nH:Nat)(S:Nat->HS)(bR nR:Nat)(V:Nat->VV)(B g cg:Nat)(ps:List BD)(u:World):Prop where
 sc:Bl u bH nH S bR nR V
 row:u.ownsRow B 38 1 (Vs g ps.length cg) ps.length (ps.map BD.v)
 pw:NZ u B 100000 ps
 b1:bH<B
 b2:bR<B
 hB:B<=u.heap.size
section
variable{bH nH:Nat}{S:Nat->HS}{bR nR:Nat}{V:Nat->VV}{B g cg:Nat}{ps:List BD}{u u':World}
theorem LD.put(h:LD bH nH S bR nR V B g cg ps u){x:Nat}{vs:Array Value}(hx:u.heap[x]?=some (.cells vs 29))(h1:x≠bH)(h2:x≠bR)(j:Nat)(v:Value):LD bH nH S bR nR V B g cg ps (u.setCell (Va x j) v):=
 ⟨⟨h.sc.h.other (a:=Va x j) h1 v,h.sc.r.other (a:=Va x j) h2 v⟩,Cs h.row (Am hx h.row (by decide)) _ _,fun b hb=>⟨Cs (h.pw b hb).1 (Am hx (h.pw b hb).1 (by decide)) _ _,(h.pw b hb).2⟩,h.b1,h.b2,by simpa using h.hB⟩
theorem LD.fw(h:LD bH nH S bR nR V B g cg ps u)(f:Fw p u u')(hp:p<B)(h1:bH≠p)(h2:bR≠p):LD bH nH S bR nR V B g cg ps u':=
 ⟨⟨f.arr h.sc.h h1,f.arr h.sc.r h2⟩,DX h.row f hp,h.pw.fw f hp,h.b1,h.b2,Nat.le_trans h.hB f.size⟩
theorem LD.below(h:LD bH nH S bR nR V B g cg ps u)(f:Below u.heap.size u u'):LD bH nH S bR nR V B g cg ps u':=
 ⟨h.sc.below f,Ah h.row f,h.pw.below f,h.b1,h.b2,Nat.le_trans h.hB f.size⟩
end
def iU(w:World)(p:Nat)(ao:Option Addr)(n cap:Nat)(e:Ending)(w':World):Prop:=
 ∃(d:Int)(bH cH nH:Nat)(S:Nat->HS)(bR cR:Nat)(V:Nat->VV)(B g cg:Nat)(ps:List BD),e=.returned (.agg #[Vi d,Vs bH nH cH,Vs bR 8 cR,Vs g ps.length cg])/\(1<=nH/\nH<=4/\8<=cR/\bH≠bR/\w.heap.size<=bH/\w.heap.size<=bR/\1<=ps.length/\ps.length<=3/\∀b∈ps,b.xs.length<=9330)/\LD bH nH S bR 8 V B g cg ps w'/\Fw p w w'/\Bj w' p ao n cap
theorem Uf(p:Nat)(ao:Option Addr)(n cap:Nat)(w:World)(hc:Bj w p ao n cap):
 Calls Tryz.prog 10 #[Vq p] w (iU w p ao n cap):=by
 have D0:=hxy (dA w p ao n cap hc);have lp:=hc.lt;clear hc;go_enter Tryz.func10,Tryz.ntmps10;go_upto_region 2 with fail;obtain⟨u,hu⟩:=Ae ((w.alloc (.cells #[Vi 0,.slice none 0 0,.slice none 0 0,.slice none 0 0] 29)).alloc (.cells #[Vi 0,.slice none 0 0,.slice none 0 0,.slice none 0 0] 29));rw[hu]at D0⊢;obtain⟨r,hr⟩:=Ae w.heap.size;obtain⟨q,hq⟩:=Ae (w.heap.size+1);have D1:Hid (LS w p ao n cap r q 0 (.slice none 0 0) (.slice none 0 0) (.slice none 0 0) u):=by rw[<-hr,<-hq];exact D0
 rw[hq,hr];have HRQ:Hid (w.heap.size=r/\w.heap.size+1=q):=⟨hr,hq⟩
 clear hu hr hq D0;go_wp2_with fail;refine(Aa p ao n cap 2 _ (by omega) D1.out.K).mono ?_;rintro e u1⟨d,rfl,_,_,f,c⟩;have D2:=hxy (D1.out.fw f c);clear f c D1;obtain⟨c0,c1,c2,c3,cf,cl⟩:=D2.out.cells;go_upto_region 3 with fail;have D3:=hxy (D2.out.put (d':=d) (vH':=.slice none 0 0) (vR':=.slice none 0 0) (vP':=.slice none 0 0) 0 (Vi d) (by simp));obtain⟨u2,hu2⟩:=Ae (u1.setCell (Va q 0) (Vi d));rw[hu2]at D3⊢;clear hu2 D2 c0 c1 c2 c3 cf cl;go_wp2_with fail;refine(Nk p ao n cap _ D3.out.K).mono ?_;rintro e u3⟨bH,cH,nH,S,bR,cR,V,rfl,n1,n4,sc,sok,lH,lR,f,c,hcR,hne⟩;have D4:=hxy (D3.out.fw f c);have lq:=Bb D3.out.X;have HN:Hid (bH≠q/\bR≠q/\bH≠r/\bR≠r/\bH≠p/\bR≠p/\w.heap.size<=bH/\w.heap.size<=bR/\p<q):=by have:=D3.out.rq;have:=D3.out.wr;refine⟨?_,?_,?_,?_,?_,?_,?_,?_,?_⟩<;>omega
 have SC:=hxy sc;have SK:=hxy sok;clear f c D3 sc sok lH lR lq;obtain⟨c0,c1,c2,c3,cf,cl⟩:=D4.out.cells;go_upto_region 4 with fail;have D5:=hxy ((D4.out.put (d':=d) (vH':=Vs bH nH cH) (vR':=.slice none 0 0) (vP':=.slice none 0 0) 1 (Vs bH nH cH) (by simp)).put (d':=d) (vH':=Vs bH nH cH) (vR':=Vs bR 8 cR) (vP':=.slice none 0 0) 2 (Vs bR 8 cR) (by simp));have SC5:Hid (Bl ((u3.setCell (Va q 1) (Vs bH nH cH)).setCell (Va q 2) (Vs bR 8 cR)) bH nH S bR 8 V):=⟨(SC.out.h.other (a:=Va q 1) HN.out.1.symm _).other (a:=Va q 2) HN.out.1.symm _,(SC.out.r.other (a:=Va q 1) HN.out.2.1.symm _).other (a:=Va q 2) HN.out.2.1.symm _⟩
 obtain⟨u4,hu4⟩:=Ae ((u3.setCell (Va q 1) (Vs bH nH cH)).setCell (Va q 2) (Vs bR 8 cR));rw[hu4]at D5 SC5⊢;clear hu4 D4 SC c0 c1 c2 c3 cf cl;obtain⟨c0,c1,c2,c3,cf,cl⟩:=D5.out.cells;go_wp2_with fail;refine(Kz p ao n cap bH cH nH S bR cR V _ D5.out.K SC5.out SK.out HN.out.2.2.2.2.1 HN.out.2.2.2.2.2.1).mono ?_;rintro e u5⟨g,cg,ps,rfl,l1,l3,ro,pw,f,c⟩;have D6:=hxy (D5.out.fw f c);have LD6:Hid (LD bH nH S bR 8 V u4.heap.size g cg ps u5):=⟨⟨f.arr SC5.out.h HN.out.2.2.2.2.1,f.arr SC5.out.r HN.out.2.2.2.2.2.1⟩,ro,fun b hb=>⟨(pw b hb).1,Nat.le_trans (pw b hb).2 (by omega)⟩,SC5.out.h.lt,SC5.out.r.lt,f.size⟩
 have HX6:Hid (∀b∈ps,b.xs.length<=9330):=fun b hb=>(pw b hb).2
 have HK:=hxy D5.out.K.lt;clear f c D5 SC5 ro pw c0 c1 c2 c3 cf cl;obtain⟨c0,c1,c2,c3,cf,cl⟩:=D6.out.cells;go_upto_region 5 with fail;have D7:=hxy (D6.out.put (d':=d) (vH':=Vs bH nH cH) (vR':=Vs bR 8 cR) (vP':=Vs g ps.length cg) 3 (Vs g ps.length cg) (by simp));have LD7:=hxy (LD6.out.put D6.out.X HN.out.1.symm HN.out.2.1.symm 3 (Vs g ps.length cg));obtain⟨u6,hu6⟩:=Ae (u5.setCell (Va q 3) (Vs g ps.length cg));rw[hu6]at D7 LD7⊢;obtain⟨B,hB⟩:=Ae u4.heap.size;rw[hB]at LD7 HK;clear hu6 hB D6 LD6 c0 c1 c2 c3 cf cl;go_wp2_with fail;refine(Dh p ao n cap 2 _ (by omega) D7.out.K).mono ?_;rintro e u7⟨z,rfl,f,c⟩;have D8:=hxy (D7.out.fw f c);have LD8:=hxy (LD7.out.fw f HK.out HN.out.2.2.2.2.1 HN.out.2.2.2.2.2.1);clear f c D7 LD7;go_upto_if 17 with fail;go_cut [](fun wx=>∃(B g cg:Nat)(ps:List BD),LS w p ao n cap r q d (Vs bH nH cH) (Vs bR 8 cR) (Vs g ps.length cg) wx/\LD bH nH S bR 8 V B g cg ps wx/\1<=ps.length/\ps.length<=3/\∀b∈ps,b.xs.length<=9330)
 case first=>
  cases z with
  |false=>
   go_wp2_with fail;go_meet;exact⟨B,g,cg,ps,D8.out,LD8.out,l1,l3,HX6.out⟩
  |true=>
   obtain⟨c0,c1,c2,c3,cf,cl⟩:=D8.out.cells;go_wp2_with fail;refine(Gi p ao n cap bH cH nH S bR cR V _ D8.out.K LD8.out.sc SK.out HN.out.2.2.2.2.1 HN.out.2.2.2.2.2.1).mono ?_;rintro e u8⟨g',cg',xs,rfl,hx,ro,f,c⟩;have D9:=hxy (D8.out.fw f c);have R9:=hxy ro;have SC9:Hid (Bl u8 bH nH S bR 8 V/\bH<u7.heap.size/\bR<u7.heap.size/\u7.heap.size<=u8.heap.size):=⟨⟨f.arr LD8.out.sc.h HN.out.2.2.2.2.1,f.arr LD8.out.sc.r HN.out.2.2.2.2.2.1⟩,LD8.out.sc.h.lt,LD8.out.sc.r.lt,f.size⟩
   clear f c ro c0 c1 c2 c3 cf cl D8 LD8;obtain⟨c0,c1,c2,c3,cf,cl⟩:=D9.out.cells;go_wp2_with fail;go_meet;have D10:=D9.out.put (d':=d) (vH':=Vs bH nH cH) (vR':=Vs bR 8 cR) (vP':=Vs u8.heap.size 1 1) 3 (Vs u8.heap.size 1 1) (by simp);have R10:=Cs R9.out (Am D9.out.X R9.out (by decide)) 3 (Vs u8.heap.size 1 1);have S10:Bl (u8.setCell (Va q 3) (Vs u8.heap.size 1 1)) bH nH S bR 8 V:=⟨SC9.out.1.h.other (a:=Va q 3) HN.out.1.symm _,SC9.out.1.r.other (a:=Va q 3) HN.out.2.1.symm _⟩
   have hs:(u8.setCell (Va q 3) (Vs u8.heap.size 1 1)).heap.size=u8.heap.size:=by simp
   obtain⟨u9,hu9⟩:=Ae (u8.setCell (Va q 3) (Vs u8.heap.size 1 1));rw[hu9]at D10 R10 S10 hs⊢;have b:=Ak (w:=u9) (o:=.cells #[Vs g' xs.length cg'] 38);have RL:=World.ownsRow_lit (base:=u7.heap.size) (e:=38) (size:=1) u9 #[Vs g' xs.length cg'] 1 (by rw[hs];exact SC9.out.2.2.2) (by unfold maxLen;omega) rfl;rw[hs]at RL;refine⟨u7.heap.size,u8.heap.size,1,[⟨g',cg',xs⟩],D10.below b,⟨S10.below b,RL,fun x hx'=>by obtain rfl:=List.mem_singleton.1 hx';exact⟨Ah R10 b,Nat.le_trans hx (by omega)⟩,SC9.out.2.1,SC9.out.2.2.1,Nat.le_trans SC9.out.2.2.2 (by have:=b.size;omega)⟩,by simp,by simp,fun x hx'=>?_⟩;obtain rfl:=List.mem_singleton.1 hx';exact hx
 case rest=>
  obtain⟨B',g',cg',ps',d1,d2,d3,d4,d5⟩:=hcut;have D9:=hxy d1;have L9:=hxy d2;have H5:=hxy d5;clear d1 d2 d5 D8 LD8 HX6 HK;obtain⟨c0,c1,c2,c3,cf,cl⟩:=D9.out.cells;have rf:=Cr D9.out.Z;have rl:=Bb D9.out.Z;have z0:=(AY D9.out.Z 0).trans rfl;have z1:=(AY D9.out.Z 1).trans rfl;have z2:=(AY D9.out.Z 2).trans rfl;have z3:=(AY D9.out.Z 3).trans rfl;go_wp2_with fail;have h1:=D9.out.rq;have h2:=D9.out.wr;have P:∀(u:World)(j:Nat)(v:Value)(vs:Array Value),u.heap[r]?=some (.cells vs 29)/\LD bH nH S bR 8 V B' g' cg' ps' u/\Fw p w u/\Bj u p ao n cap->(u.setCell (Va r j) v).heap[r]?=some (.cells (vs.setIfInBounds j v) 29)/\LD bH nH S bR 8 V B' g' cg' ps' (u.setCell (Va r j) v)/\Fw p w (u.setCell (Va r j) v)/\Bj (u.setCell (Va r j) v) p ao n cap:=
   fun u j v vs h=>⟨Ci h.1 j v,h.2.1.put h.1 HN.out.2.2.1.symm HN.out.2.2.2.1.symm j v,h.2.2.1.put h2 j v,h.2.2.2.put (by omega) j v⟩
  have E:=P _ 3 (Vs g' ps'.length cg') _ (P _ 2 (Vs bR 8 cR) _ (P _ 1 (Vs bH nH cH) _ (P _ 0 (Vi d) _ ⟨D9.out.Z,L9.out,D9.out.F,D9.out.K⟩)));exact bodyPost_ret (v:=.agg #[Vi d,Vs bH nH cH,Vs bR 8 cR,Vs g' ps'.length cg']) (by simp[results,Tryz.results10,go_sem, *]) rfl ⟨d,bH,cH,nH,S,bR,cR,V,B',g',cg',ps',rfl,⟨n1,n4,hcR,hne,HN.out.2.2.2.2.2.2.1,HN.out.2.2.2.2.2.2.2.1,d3,d4,H5.out⟩,E.2.1,E.2.2.1,E.2.2.2⟩
def XG(u:World)(B:Nat):World:={u with heap:=u.heap.extract 0 B}
theorem KG(h:B<=u.heap.size):(XG u B).heap.size=B:=by simp[XG];omega
theorem aG(h:B<=u.heap.size):Fw p (XG u B) u:=⟨rfl,rfl,rfl,by rw[KG h];exact h,fun k hk _=>by rw[KG h]at hk;show u.heap[k]?=(u.heap.extract 0 B)[k]?;rw[Array.getElem?_extract];simp;omega⟩
theorem XM{a s:Nat}{w':World}{xs:List Value}(h:w.ownsRow B e s v n xs)(f:F3 p a b w w')(h1:p<B)(h2:a<B)(h3:b<B):w'.ownsRow B e s v n xs:=
 JM h fun k hk=>f.block k (QF h hk) (by have:=Ba h hk;omega) (by have:=Ba h hk;omega) (by have:=Ba h hk;omega)
theorem A9.keep{w':World}{f:Nat->Value}(h:A9 w b n f)(e:w'.heap[b]?=w.heap[b]?)(hB:B<=w'.heap.size)(hb:b<B):A9 w' b n f:=
 ⟨by omega,fun i=>(World.frozen?_of_block (a:=Va b i) e).trans (h.free i),fun i hi=>(World.cell?_of_block (a:=Va b i) e).trans (h.cell hi)⟩
theorem bS{ao:Option Addr}(h:Fp w w.heap.size ao n)(hb:Below w.heap.size w u):Fp u u.heap.size ao n:=by
 rcases h with h|⟨b,off,h1,h2,h3⟩
 ·exact .inl h
 ·refine .inr ⟨b,off,h1,jI h2 hb.size,fun i hi=>?_⟩
  obtain⟨x,x0,x1,hx⟩:=h3 i hi;exact⟨x,x0,x1,(hb.cell (p:=Va b (off+i)) h2).trans hx⟩
structure LP(w:World)(p:Nat)(ao:Option Addr)(n cap:Nat)(r q:Nat)(d:Int)(vH vR vP:Value)(u:World):Prop where
 F:Below w.heap.size w u
 K:Bj u p ao n cap
 Z:u.heap[r]?=some (.cells #[Vi 0,.slice none 0 0,.slice none 0 0,.slice none 0 0] 29)
 X:u.heap[q]?=some (.cells #[Vi d,vH,vR,vP] 29)
 wr:w.heap.size<=r
 rp:r<p
 pq:p<q
section
variable{w:World}{p:Nat}{ao:Option Addr}{n cap r q:Nat}{d d':Int}{vH vR vP vH' vR' vP':Value}{u u':World}
theorem LP.fw(h:LP w p ao n cap r q d vH vR vP u)(f:Fw p u u')(c:Bj u' p ao n cap):LP w p ao n cap r q d vH vR vP u':=by
 have o1:=h.wr;have o2:=h.rp;have o3:=h.pq;exact⟨f.below h.F (by omega) h.F.size,c,CJ h.Z f (by omega),CJ h.X f (by omega),o1,o2,o3⟩
theorem LP.f3(h:LP w p ao n cap r q d vH vR vP u){a:Nat}(f:F3 p a b u u')(c:Bj u' p ao n cap)(ha:p<a/\a<q)(hb:p<b/\b<q):LP w p ao n cap r q d vH vR vP u':=by
 have o1:=h.wr;have o2:=h.rp;have o3:=h.pq;exact⟨⟨f.os.trans h.F.os,f.tape.trans h.F.tape,f.output.trans h.F.output,Nat.le_trans h.F.size f.size,fun k hk=>(f.block k (jI hk h.F.size) (by omega) (by omega) (by omega)).trans (h.F.block k hk)⟩,c,(f.block r (Bb h.Z) (by omega) (by omega) (by omega)).trans h.Z,(f.block q (Bb h.X) (by omega) (by omega) (by omega)).trans h.X,o1,o2,o3⟩
theorem LP.cells(h:LP w p ao n cap r q d vH vR vP u):u.cell? (Va q 0)=some (Vi d)/\u.cell? (Va q 1)=some vH/\u.cell? (Va q 2)=some vR/\u.cell? (Va q 3)=some vP/\(∀i,u.frozen? (Va q i)=false)/\q<u.heap.size/\u.cell? (Va r 0)=some (Vi 0)/\u.cell? (Va r 1)=some (.slice none 0 0)/\u.cell? (Va r 2)=some (.slice none 0 0)/\u.cell? (Va r 3)=some (.slice none 0 0)/\(∀i,u.frozen? (Va r i)=false)/\r<u.heap.size:=
 ⟨(AY h.X 0).trans rfl,(AY h.X 1).trans rfl,(AY h.X 2).trans rfl,(AY h.X 3).trans rfl,Cr h.X,Bb h.X,(AY h.Z 0).trans rfl,(AY h.Z 1).trans rfl,(AY h.Z 2).trans rfl,(AY h.Z 3).trans rfl,Cr h.Z,Bb h.Z⟩
theorem LP.put(h:LP w p ao n cap r q d vH vR vP u)(j:Nat)(v:Value)(e:(#[Vi d,vH,vR,vP]:Array Value).setIfInBounds j v=#[Vi d',vH',vR',vP']):LP w p ao n cap r q d' vH' vR' vP' (u.setCell (Va q j) v):=by
 have o1:=h.wr;have o2:=h.rp;have o3:=h.pq;exact⟨h.F.setCell (p:=Va q j) (show w.heap.size<=q by omega) _,h.K.put o3 _ _,Av h.Z (by omega) _ _,e▸Ci h.X j v,o1,o2,o3⟩
end
def iT(w:World)(e:Ending)(w':World):Prop:=
 ∃(d:Int)(bH cH nH:Nat)(S:Nat->HS)(bR cR nR:Nat)(V:Nat->VV)(B g cg:Nat)(ps:List BD),e=.returned (.agg #[Vi d,Vs bH nH cH,Vs bR nR cR,Vs g ps.length cg])/\(1<=nH/\nH<=4/\nR<=8/\1<=ps.length/\ps.length<=100)/\LD bH nH S bR nR V B g cg ps w'/\Below w.heap.size w w'
theorem SN(ao:Option Addr)(n cap:Nat)(w:World)(hn:n<=1048576)(hr:Fp w w.heap.size ao n):
 Calls Tryz.prog 4 #[.slice ao n cap] w (iT w):=by
 have HR:=hxy hr;clear hr;go_enter Tryz.func4,Tryz.ntmps4;go_upto_region 1 with fail;have B0:=hxy (Ak (w:=w) (o:=.cells #[Vi 0,.slice none 0 0,.slice none 0 0,.slice none 0 0] 29));have Z0:=hxy (Bh w (.cells #[Vi 0,.slice none 0 0,.slice none 0 0,.slice none 0 0] 29));obtain⟨u,hu⟩:=Ae (w.alloc (.cells #[Vi 0,.slice none 0 0,.slice none 0 0,.slice none 0 0] 29));rw[hu]at B0 Z0⊢;obtain⟨r,hr⟩:=Ae w.heap.size;rw[hr]at Z0⊢;clear hu;go_wp2_with fail;refine(WB ao n cap u hn (bS HR.out B0.out)).mono ?_;rintro e u1⟨p,rfl,lp,hb1,c1⟩;have B1:Hid (Below w.heap.size w u1/\r<p/\w.heap.size<=r/\u1.heap[r]?=some (.cells #[Vi 0,.slice none 0 0,.slice none 0 0,.slice none 0 0] 29)):=⟨B0.out.trans (hb1.mono B0.out.size),by have:=Bb Z0.out;omega,by omega,Aw Z0.out hb1⟩
 have K1:=hxy c1;clear hb1 c1 lp B0 Z0 HR;go_wp2_with fail;refine(Uf p ao n cap u1 K1.out).mono ?_;rintro e u2⟨d,bH,cH,nH,S,bR,cR,V,B,g,cg,ps,rfl,hh,ld,f,c⟩;have L2:=hxy ld;have HH:=hxy hh;have K2:=hxy c;have F2:=hxy f;clear ld hh f c;go_upto_region 3 with fail;have b3:=Ak (w:=u2) (o:=.cells #[Vi d,Vs bH nH cH,Vs bR 8 cR,Vs g ps.length cg] 29);have X3:=Bh u2 (.cells #[Vi d,Vs bH nH cH,Vs bR 8 cR,Vs g ps.length cg] 29);obtain⟨u3,hu3⟩:=Ae (u2.alloc (.cells #[Vi d,Vs bH nH cH,Vs bR 8 cR,Vs g ps.length cg] 29));rw[hu3]at b3 X3⊢;have l1:=K1.out.lt;have l2:=F2.out.size;obtain⟨q,hq⟩:=Ae u2.heap.size;rw[hq]at X3⊢;have D3:Hid (LP w p ao n cap r q d (Vs bH nH cH) (Vs bR 8 cR) (Vs g ps.length cg) u3):=⟨(F2.out.below B1.out.1 (by have:=B1.out.2;omega) B1.out.1.size).trans (b3.mono (Nat.le_trans B1.out.1.size F2.out.size)),K2.out.below b3,Aw (CJ B1.out.2.2.2 F2.out (by have:=B1.out.2;omega)) b3,X3,B1.out.2.2.1,B1.out.2.1,by omega⟩
 have L3:=hxy (L2.out.below b3);have HN:Hid (p<bH/\p<bR/\bH<B/\bR<B/\B<=q/\bH≠bR/\p<B):=⟨by have:=HH.out.2.2.2.2.1;omega,by have:=HH.out.2.2.2.2.2.1;omega,L2.out.b1,L2.out.b2,by rw[<-hq];exact L2.out.hB,HH.out.2.2.2.1,by have:=HH.out.2.2.2.2.1;have:=L2.out.b1;omega⟩
 clear hu3 b3 X3 l1 l2 hq B1 K1 L2 K2 F2;have FIN:Hid (∀(u:World)(d':Int)(S':Nat->HS)(nR':Nat)(V':Nat->VV)(g' cg':Nat)(ps':List BD),LP w p ao n cap r q d' (Vs bH nH cH) (Vs bR nR' cR) (Vs g' ps'.length cg') u->LD bH nH S' bR nR' V' B g' cg' ps' u->nR'<=8->1<=ps'.length->ps'.length<=100->
  iT w (.returned (.agg #[Vi d',Vs bH nH cH,Vs bR nR' cR,Vs g' ps'.length cg'])) ((((u.setCell (Va r 0) (Vi d')).setCell (Va r 1) (Vs bH nH cH)).setCell (Va r 2) (Vs bR nR' cR)).setCell (Va r 3) (Vs g' ps'.length cg'))):=by
  intro u d' S' nR' V' g' cg' ps' h1 h2 h3 h4 h5;have o1:=h1.wr;have o2:=h1.rp;have o3:=HN.out;have P:∀(u:World)(j:Nat)(v:Value)(vs:Array Value),u.heap[r]?=some (.cells vs 29)/\LD bH nH S' bR nR' V' B g' cg' ps' u/\Below w.heap.size w u->(u.setCell (Va r j) v).heap[r]?=some (.cells (vs.setIfInBounds j v) 29)/\LD bH nH S' bR nR' V' B g' cg' ps' (u.setCell (Va r j) v)/\Below w.heap.size w (u.setCell (Va r j) v):=
   fun u j v vs h=>⟨Ci h.1 j v,h.2.1.put h.1 (by omega) (by omega) j v,h.2.2.setCell (p:=Va r j) o1 v⟩
  have E:=P _ 3 (Vs g' ps'.length cg') _ (P _ 2 (Vs bR nR' cR) _ (P _ 1 (Vs bH nH cH) _ (P _ 0 (Vi d') _ ⟨h1.Z,h2,h1.F⟩)));exact⟨d',bH,cH,nH,S',bR,cR,nR',V',B,g',cg',ps',rfl,⟨HH.out.1,HH.out.2.1,h3,h4,h5⟩,E.2.1,E.2.2⟩
 go_wp2_with fail;refine(Aa p ao n cap 12 _ (by omega) D3.out.K).mono ?_;rintro e u4⟨k,rfl,k0,k12,f,c⟩;have D4:=hxy (D3.out.fw f c);have L4:=hxy (L3.out.fw f HN.out.2.2.2.2.2.2 (by have:=HN.out;omega) (by have:=HN.out;omega));clear f c D3 L3;obtain rfl|rfl|rfl|k3:k=0∨k=1∨k=2∨3<=k:=by omega
 ·obtain⟨c0,c1,c2,c3,cf,cl,z0,z1,z2,z3,zf,zl⟩:=D4.out.cells
  have hqr:q≠r:=by have:=D4.out.rp;have:=D4.out.pq;omega
  go_wp2_with fail;exact bodyPost_ret (v:=.agg #[Vi 2,Vs bH nH cH,Vs bR 8 cR,Vs g ps.length cg]) (by simp[results,Tryz.results4,go_sem, *]) rfl (FIN.out (u4.setCell (Va q 0) (Vi 2)) 2 S 8 V g cg ps (D4.out.put 0 _ (by simp)) (L4.out.put D4.out.X (by have:=HN.out;omega) (by have:=HN.out;omega) 0 _) (by omega) HH.out.2.2.2.2.2.2.1 (by have:=HH.out.2.2.2.2.2.2.2.1;omega))
 ·obtain⟨c0,c1,c2,c3,cf,cl,z0,z1,z2,z3,zf,zl⟩:=D4.out.cells
  go_wp2_with fail;refine(Lm p ao n cap bH cH nH S bR cR V _ D4.out.K L4.out.sc HH.out.1 HH.out.2.1 HH.out.2.2.1 HN.out.1 HN.out.2.1 HN.out.2.2.2.2.2.1).mono ?_;rintro e u5⟨S',nR',V',rfl,n8,sc,f,c⟩;have D5:=hxy (D4.out.f3 f c (by have:=HN.out;omega) (by have:=HN.out;omega));have L5:Hid (LD bH nH S' bR nR' V' B g cg ps u5):=⟨sc,XM L4.out.row f HN.out.2.2.2.2.2.2 HN.out.2.2.1 HN.out.2.2.2.1,fun x hx=>⟨XM (L4.out.pw x hx).1 f HN.out.2.2.2.2.2.2 HN.out.2.2.1 HN.out.2.2.2.1,(L4.out.pw x hx).2⟩,L4.out.b1,L4.out.b2,Nat.le_trans L4.out.hB f.size⟩
  clear c0 c1 c2 c3 cf cl z0 z1 z2 z3 zf zl sc f c D4 L4;obtain⟨c0,c1,c2,c3,cf,cl,z0,z1,z2,z3,zf,zl⟩:=D5.out.cells;have hqr:q≠r:=by have:=D5.out.rp;have:=D5.out.pq;omega
  go_wp2_with fail;exact bodyPost_ret (v:=.agg #[Vi d,Vs bH nH cH,Vs bR nR' cR,Vs g ps.length cg]) (by simp[results,Tryz.results4,go_sem, *]) rfl (FIN.out ((u5.setCell (Va q 1) (Vs bH nH cH)).setCell (Va q 2) (Vs bR nR' cR)) d S' nR' V' g cg ps ((D5.out.put (d':=d) (vH':=Vs bH nH cH) (vR':=Vs bR 8 cR) (vP':=Vs g ps.length cg) 1 _ (by simp)).put 2 _ (by simp)) ((L5.out.put D5.out.X (by have:=HN.out;omega) (by have:=HN.out;omega) 1 _).put (Ci D5.out.X 1 _) (by have:=HN.out;omega) (by have:=HN.out;omega) 2 _) n8 HH.out.2.2.2.2.2.2.1 (by have:=HH.out.2.2.2.2.2.2.2.1;omega))
 ·obtain⟨c0,c1,c2,c3,cf,cl,z0,z1,z2,z3,zf,zl⟩:=D4.out.cells
  have CS:=KG L4.out.hB;have CF:=aG (p:=p) L4.out.hB;obtain⟨G,hG⟩:=Ae (fun(x:Nat)(vs:Array Value)=>u4.heap[x]?=some (.cells vs 29)/\x≠p);have QQ:Hid (QX G (XG u4 B) p ao n cap g cg ps u4):=⟨CF,D4.out.K,by rw[CS];exact L4.out.row,by rw[CS];exact L4.out.pw,by rw[CS];exact HN.out.2.2.2.2.2.2,fun x vs h=>by rw[<-hG]at h;exact⟨h.2,h.1⟩⟩
  have GG:Hid (G r #[Vi 0,.slice none 0 0,.slice none 0 0,.slice none 0 0]/\G q #[Vi d,Vs bH nH cH,Vs bR 8 cR,Vs g ps.length cg]):=by rw[<-hG];exact⟨⟨D4.out.Z,by have:=D4.out.rp;omega⟩,D4.out.X,by have:=D4.out.pq;omega⟩
  have CSH:=hxy CS;have CFH:=hxy CF;clear CS CF hG;go_wp2_with fail;refine(KO G (XG u4 B) p ao n cap g cg ps _ HH.out.2.2.2.2.2.2.1 HH.out.2.2.2.2.2.2.2.1 HH.out.2.2.2.2.2.2.2.2 QQ.out).mono ?_;rintro e u5⟨g',cg',ps',rfl,m1,m2,q5⟩;have sz:Hid (B<=u5.heap.size/\w.heap.size<=u5.heap.size):=by have h1:=q5.F.size;have h2:=D4.out.wr;have h3:=D4.out.rp;have h4:=HN.out.2.2.2.2.2.2;rw[CSH.out]at h1;exact⟨by omega,by omega⟩
  have blk:Hid (∀k,k<B->k≠p->u5.heap[k]?=u4.heap[k]?):=fun k hk hp=>(q5.F.block k (by rw[CSH.out];exact hk) hp).trans (CFH.out.block k (by rw[CSH.out];exact hk) hp).symm
  have D5:Hid (LP w p ao n cap r q d (Vs bH nH cH) (Vs bR 8 cR) (Vs g ps.length cg) u5):=⟨⟨(q5.F.os.trans CFH.out.os.symm).trans D4.out.F.os,(q5.F.tape.trans CFH.out.tape.symm).trans D4.out.F.tape,(q5.F.output.trans CFH.out.output.symm).trans D4.out.F.output,sz.out.2,fun k hk=>(blk.out k (by have:=D4.out.wr;have:=D4.out.rp;have:=HN.out.2.2.2.2.2.2;omega) (by have:=D4.out.wr;have:=D4.out.rp;omega)).trans (D4.out.F.block k hk)⟩,q5.K,(q5.X r _ GG.out.1).2,(q5.X q _ GG.out.2).2,D4.out.wr,D4.out.rp,D4.out.pq⟩
  have L5:Hid (LD bH nH S bR 8 V B g' cg' ps' u5):=⟨⟨L4.out.sc.h.keep (blk.out bH HN.out.2.2.1 (by have:=HN.out;omega)) sz.out.1 HN.out.2.2.1,L4.out.sc.r.keep (blk.out bR HN.out.2.2.2.1 (by have:=HN.out;omega)) sz.out.1 HN.out.2.2.2.1⟩,by have h:=q5.row;rw[CSH.out]at h;exact h,by have h:=q5.pw;rw[CSH.out]at h;exact h,L4.out.b1,L4.out.b2,sz.out.1⟩
  clear c0 c1 c2 c3 cf cl z0 z1 z2 z3 zf zl q5 D4 L4 QQ GG blk sz CSH CFH;obtain⟨c0,c1,c2,c3,cf,cl,z0,z1,z2,z3,zf,zl⟩:=D5.out.cells;have hqr:q≠r:=by have:=D5.out.rp;have:=D5.out.pq;omega
  go_wp2_with fail;exact bodyPost_ret (v:=.agg #[Vi d,Vs bH nH cH,Vs bR 8 cR,Vs g' ps'.length cg']) (by simp[results,Tryz.results4,go_sem, *]) rfl (FIN.out (u5.setCell (Va q 3) (Vs g' ps'.length cg')) d S 8 V g' cg' ps' (D5.out.put 3 _ (by simp)) (L5.out.put D5.out.X (by have:=HN.out;omega) (by have:=HN.out;omega) 3 _) (by omega) m1 m2)
 ·have e0:(k==0)=false:=by rw[beq_eq_false_iff_ne];omega
  have e1:(k==1)=false:=by rw[beq_eq_false_iff_ne];omega
  have e2:(k==2)=false:=by rw[beq_eq_false_iff_ne];omega
  obtain⟨c0,c1,c2,c3,cf,cl,z0,z1,z2,z3,zf,zl⟩:=D4.out.cells;go_wp2_with fail;exact bodyPost_ret (v:=.agg #[Vi d,Vs bH nH cH,Vs bR 8 cR,Vs g ps.length cg]) (by simp[results,Tryz.results4,go_sem, *]) rfl (FIN.out u4 d S 8 V g cg ps D4.out L4.out (by omega) HH.out.2.2.2.2.2.2.1 (by have:=HH.out.2.2.2.2.2.2.2.1;omega))
theorem Qm(b len cap b' cap':Nat)(L:Nat->SV)(w:World)(hlen:len<=1048576)(hat:A9 w b (len*11) (IU L))(hat':A9 w b' (len*11) (IU L)):
 Calls Tryz.prog 8 #[Vs b len cap,Vs b' len cap'] w fun e w'=>e=.returned (.bool true)/\Below w.heap.size w w':=by
 have hb:=hat.lt;have hb':=hat'.lt;have HA:=hxy hat;have HA':=hxy hat';clear hat hat';go_enter Tryz.func8,Tryz.ntmps8;go_wp2;go_loopw [5](fun i wr=>∃k:Nat,k<=len/\i=Vi k/\Below w.heap.size w wr)(fun i _=>len-(intOf i).toNat)
 case atStart=>exact⟨0,Nat.zero_le _,rfl,Below.refl _ _⟩
 case round=>
  obtain⟨k,hk,rfl,hbr⟩:=hrel;have HBR:=hxy hbr;by_cases hlt:k<len
  ·have hlt':(k:Int)<(len:Int):=by omega
   have g0:wr.cell? (Va b (k*11))=some (Vi (L k).k):=(hbr.cell (p:=Va b (k*11)) hb).trans ((HA.out.cell (i:=k*11+0) (by omega)).trans (congrArg some (Bn L k 0 (by omega))));have g1:wr.cell? (Va b (k*11+1))=some (Vi (L k).op):=(hbr.cell (p:=Va b (k*11+1)) hb).trans ((HA.out.cell (i:=k*11+1) (by omega)).trans (congrArg some (Bn L k 1 (by omega))));have g2:wr.cell? (Va b (k*11+2))=some (Vi (L k).d):=(hbr.cell (p:=Va b (k*11+2)) hb).trans ((HA.out.cell (i:=k*11+2) (by omega)).trans (congrArg some (Bn L k 2 (by omega))));have g3:wr.cell? (Va b (k*11+3))=some (Vi (L k).a):=(hbr.cell (p:=Va b (k*11+3)) hb).trans ((HA.out.cell (i:=k*11+3) (by omega)).trans (congrArg some (Bn L k 3 (by omega))));have g4:wr.cell? (Va b (k*11+4))=some (Vi (L k).b):=(hbr.cell (p:=Va b (k*11+4)) hb).trans ((HA.out.cell (i:=k*11+4) (by omega)).trans (congrArg some (Bn L k 4 (by omega))));have g5:wr.cell? (Va b (k*11+5))=some (Vi (L k).imm):=(hbr.cell (p:=Va b (k*11+5)) hb).trans ((HA.out.cell (i:=k*11+5) (by omega)).trans (congrArg some (Bn L k 5 (by omega))));have g6:wr.cell? (Va b (k*11+6))=some (Vi (L k).h):=(hbr.cell (p:=Va b (k*11+6)) hb).trans ((HA.out.cell (i:=k*11+6) (by omega)).trans (congrArg some (Bn L k 6 (by omega))));have g7:wr.cell? (Va b (k*11+7))=some (Vi (L k).cond):=(hbr.cell (p:=Va b (k*11+7)) hb).trans ((HA.out.cell (i:=k*11+7) (by omega)).trans (congrArg some (Bn L k 7 (by omega))));have g8:wr.cell? (Va b (k*11+8))=some (Vi (L k).thn):=(hbr.cell (p:=Va b (k*11+8)) hb).trans ((HA.out.cell (i:=k*11+8) (by omega)).trans (congrArg some (Bn L k 8 (by omega))));have g9:wr.cell? (Va b (k*11+9))=some (Vi (L k).els):=(hbr.cell (p:=Va b (k*11+9)) hb).trans ((HA.out.cell (i:=k*11+9) (by omega)).trans (congrArg some (Bn L k 9 (by omega))));have g10:wr.cell? (Va b (k*11+10))=some (Vi (L k).proc):=(hbr.cell (p:=Va b (k*11+10)) hb).trans ((HA.out.cell (i:=k*11+10) (by omega)).trans (congrArg some (Bn L k 10 (by omega))));have q0:wr.cell? (Va b' (k*11))=some (Vi (L k).k):=(hbr.cell (p:=Va b' (k*11)) hb').trans ((HA'.out.cell (i:=k*11+0) (by omega)).trans (congrArg some (Bn L k 0 (by omega))));have q1:wr.cell? (Va b' (k*11+1))=some (Vi (L k).op):=(hbr.cell (p:=Va b' (k*11+1)) hb').trans ((HA'.out.cell (i:=k*11+1) (by omega)).trans (congrArg some (Bn L k 1 (by omega))));have q2:wr.cell? (Va b' (k*11+2))=some (Vi (L k).d):=(hbr.cell (p:=Va b' (k*11+2)) hb').trans ((HA'.out.cell (i:=k*11+2) (by omega)).trans (congrArg some (Bn L k 2 (by omega))));have q3:wr.cell? (Va b' (k*11+3))=some (Vi (L k).a):=(hbr.cell (p:=Va b' (k*11+3)) hb').trans ((HA'.out.cell (i:=k*11+3) (by omega)).trans (congrArg some (Bn L k 3 (by omega))));have q4:wr.cell? (Va b' (k*11+4))=some (Vi (L k).b):=(hbr.cell (p:=Va b' (k*11+4)) hb').trans ((HA'.out.cell (i:=k*11+4) (by omega)).trans (congrArg some (Bn L k 4 (by omega))))
   have q5:wr.cell? (Va b' (k*11+5))=some (Vi (L k).imm):=(hbr.cell (p:=Va b' (k*11+5)) hb').trans ((HA'.out.cell (i:=k*11+5) (by omega)).trans (congrArg some (Bn L k 5 (by omega))));have q6:wr.cell? (Va b' (k*11+6))=some (Vi (L k).h):=(hbr.cell (p:=Va b' (k*11+6)) hb').trans ((HA'.out.cell (i:=k*11+6) (by omega)).trans (congrArg some (Bn L k 6 (by omega))));have q7:wr.cell? (Va b' (k*11+7))=some (Vi (L k).cond):=(hbr.cell (p:=Va b' (k*11+7)) hb').trans ((HA'.out.cell (i:=k*11+7) (by omega)).trans (congrArg some (Bn L k 7 (by omega))));have q8:wr.cell? (Va b' (k*11+8))=some (Vi (L k).thn):=(hbr.cell (p:=Va b' (k*11+8)) hb').trans ((HA'.out.cell (i:=k*11+8) (by omega)).trans (congrArg some (Bn L k 8 (by omega))));have q9:wr.cell? (Va b' (k*11+9))=some (Vi (L k).els):=(hbr.cell (p:=Va b' (k*11+9)) hb').trans ((HA'.out.cell (i:=k*11+9) (by omega)).trans (congrArg some (Bn L k 9 (by omega))));have q10:wr.cell? (Va b' (k*11+10))=some (Vi (L k).proc):=(hbr.cell (p:=Va b' (k*11+10)) hb').trans ((HA'.out.cell (i:=k*11+10) (by omega)).trans (congrArg some (Bn L k 10 (by omega))));go_wp2_with fail;go_quiet(fail);clear g0 g1 g2 g3 g4 g5 g6 g7 g8 g9 g10 q0 q1 q2 q3 q4 q5 q6 q7 q8 q9 q10;go_wp2;go_roundw
   case rel=>exact⟨k+1,by omega,by go_num,HBR.out.trans (below_drewN (Below.refl _ _) _)⟩
   case measure=>simp[intOf];omega
  ·go_wp2
   go_ret;exact⟨rfl,hbr⟩
theorem SH(ao ao':Option Addr)(cap cap':Nat)(w:World):
 Calls Tryz.prog 8 #[.slice ao 0 cap,.slice ao' 0 cap'] w fun e w'=>e=.returned (.bool true)/\Below w.heap.size w w':=by
 go_enter Tryz.func8,Tryz.ntmps8;go_wp2;refine wp_loop_rounds 1 ?_;rw[rounds_succ];go_wp2;go_ret;exact⟨rfl,Below.refl _ _⟩
def eG:BD:=⟨0,0,[]⟩
def YN(ps:List BD)(i:Nat):PV:=⟨(ps.getD i eG).xs.length,fun j=>(ps.getD i eG).xs.getD j UY,(ps.getD i eG).c⟩
def Xq(ps:List BD)(i:Nat):Nat:=(ps.getD i eG).g
theorem YW{g c:Nat}{xs:List SV}(h:w.ownsRow base e 11 (Vs g xs.length c) xs.length (BZ xs)):A9 w g (xs.length*11) (IU (fun i=>xs.getD i UY)):=
 ⟨(h.lt g rfl).2,fun i=>h.frozenAt i,fun i hi=>by rw[h.cellAt i (by omega)];exact LH xs UY i hi⟩
theorem bX{g cg:Nat}{ps:List BD}(h:u.ownsRow B 38 1 (Vs g ps.length cg) ps.length (ps.map BD.v))(hp:NZ u B 100000 ps):TP u g ps.length (YN ps) (Xq ps)/\∀i,i<ps.length->(YN ps i).n<=1048576:=by
 have mem:∀i,i<ps.length->ps.getD i eG∈ps:=fun i hi=>by
  rw[jJ,List.getElem?_eq_getElem hi];exact List.getElem_mem hi
 refine⟨⟨⟨(h.lt g rfl).2,fun i=>h.frozenAt i,fun i hi=>?_⟩,fun i hi=>YW (hp _ (mem i hi)).1,fun i hi=>IE (hp _ (mem i hi)).1⟩,fun i hi=>Nat.le_trans (hp _ (mem i hi)).2 (by omega)⟩;rw[h.cellAt i (by omega),List.getElem?_map,List.getElem?_eq_getElem hi];show some (BD.v ps[i])=some (BD.v (ps.getD i eG));rw[jJ,List.getElem?_eq_getElem hi];rfl
theorem VF{α:Type}{S:Nat->α}{i:Nat}{d:α}(h:i<n):((List.range n).map S).getD i d=S i:=by simp[h]
theorem MZ{size:Nat}{xs:List Value}(h:w.ownsRow base e size v n xs)(hn:0<n):∃g c,v=Vs g n c:=by
 rcases h.2 with⟨h1,h2⟩|⟨g,c,cur,h1,_⟩
 ·omega
 ·exact⟨g,c,h1⟩
theorem Yd{S:Nat->HS}(h:w.ownsRow B e 3 v ((List.range n).map S).length (((List.range n).map S).flatMap hsL))(hn:1<=n):∃g c,v=Vs g n c/\A9 w g (n*3) (QD S):=by
 have hl:((List.range n).map S).length=n:=by simp
 obtain⟨g,c,rfl⟩:=MZ h (by omega);refine⟨g,c,by rw[hl],(h.lt g rfl).2,fun i=>h.frozenAt i,fun i hi=>?_⟩;rw[h.cellAt i (by omega)];refine(Qd _ i (by omega)).trans ?_;unfold QD;dsimp only;rw[VF (by omega)]
theorem Xt{V:Nat->VV}(h:w.ownsRow B e 6 v ((List.range n).map V).length (((List.range n).map V).flatMap Qe))(hn:1<=n):∃g c,v=Vs g n c/\A9 w g (n*6) (vF V):=by
 have hl:((List.range n).map V).length=n:=by simp
 obtain⟨g,c,rfl⟩:=MZ h (by omega);refine⟨g,c,by rw[hl],(h.lt g rfl).2,fun i=>h.frozenAt i,fun i hi=>?_⟩;rw[h.cellAt i (by omega)];refine(PN _ i (by omega)).trans ?_;unfold vF;dsimp only;rw[VF (by omega)]
theorem YJ{L:Nat->SV}(h:w.ownsRow B e 11 v (Fs L 0 n).length (cs (Fs L 0 n)))(hn:1<=n):∃g c,v=Vs g n c/\A9 w g (n*11) (IU L):=by
 have hl:=QY L 0 n;obtain⟨g,c,rfl⟩:=MZ h (by omega);refine⟨g,c,by rw[hl];rfl,(h.lt g rfl).2,fun i=>h.frozenAt i,fun i hi=>?_⟩;rw[h.cellAt i (by omega)];refine(LH _ UY i (by omega)).trans ?_;unfold IU;congr 2
 have:i/11<n:=by omega
 simp[Fs,this]
theorem dh(l:List UInt8)(i:Nat)(h:i<l.length):(Lib.byteCells l)[i]?=some (EG .u8 (bF l) i):=by
 simp[Lib.byteCells,EG,bF,h]
theorem dW{l:List UInt8}(h:w.ownsRow base e 1 v n (Lib.byteCells l))(hl:l≠[]):∃g cap,v=Vs g l.length cap/\l.length<=cap/\At w g 0 l.length (EG .u8 (bF l)):=by
 have hn:n=l.length:=by have:=h.1;rw[Lib.byteCells_length]at this;omega
 subst hn;obtain⟨g,c,rfl⟩:=MZ h (List.length_pos_iff.2 hl);refine⟨g,c,rfl,IE h,(h.lt g rfl).2,fun i hi=>?_⟩;rw[Nat.zero_add,h.cellAt i (by omega),dh l i hi]
theorem Zo{l:List UInt8}(h:w.ownsRow base e 1 v n (Lib.byteCells l)):∃ao c,v=.slice ao l.length c:=by
 have hn:n=l.length:=by have:=h.1;rw[Lib.byteCells_length]at this;omega
 subst hn;rcases h.2 with⟨h1,h2⟩|⟨g,c,cur,h1,_⟩
 ·exact⟨none,0,by rw[h1,h2]⟩
 ·exact⟨_,_,h1⟩
theorem Env.at(h:Env w w.heap.size)(b:Below w.heap.size w u):Env u u.heap.size:=
 have k:=h.below b
 ⟨k.sp,k.p10,k.es,k.er,k.ml,fun n hn g hg=>jI (h.g n hn g hg) b.size⟩
theorem XK{L:Nat->SV}(h:w.ownsRow B e 11 v (Fs L 0 0).length (cs (Fs L 0 0))):∃a c,v=.slice a 0 c:=by
 rcases h.2 with⟨h1,h2⟩|⟨g,c,cur,h1,_⟩
 ·exact⟨_,_,h1⟩
 ·exact⟨_,_,h1⟩
def Ot(u:World)(p:PV)(b:Value):Prop:=(p.n=0/\∃a c,b=.slice a 0 c)∨(1<=p.n/\∃g c,b=Vs g p.n c/\A9 u g (p.n*11) (IU p.L))
theorem Ot.below{u':World}{p:PV}{b:Value}(h:Ot u p b)(f:Below u.heap.size u u'):Ot u' p b:=by
 rcases h with h|⟨h1,g,c,h2,h3⟩
 ·exact .inl h
 ·exact .inr ⟨h1,g,c,h2,h3.below f h3.lt⟩
theorem Tv{np nH:Nat}{S:Nat->HS}{V:Nat->VV}{Pv:Nat->PV}{vH vR vP:Value}{bv:List Value}(rows:Et u B (Df [] ((List.range nH).map S) ((List.range 8).map V) ((List.range np).map fun i=>Fs (Pv i).L 0 (Pv i).n) vH vR vP bv))(bvl:bv.length=np)(h1:1<=nH)(hp:1<=np):
 (∃g c,vH=Vs g nH c/\A9 u g (nH*3) (QD S))/\(∃g c,vR=Vs g 8 c/\A9 u g (8*6) (vF V))/\∃(g c:Nat)(bd:Nat->Value),vP=Vs g np c/\g<u.heap.size/\∀i,i<np->u.cell? (Va g i)=some (bd i)/\Ot u (Pv i) (bd i):=by
 refine⟨Yd (rows.own 0 _ rfl) h1,Xt (rows.own 1 _ rfl) (by omega),?_⟩;have h2:u.ownsRow B 38 1 vP bv.length bv:=rows.own 2 _ rfl;obtain⟨g,c,rfl⟩:=MZ h2 (by omega);refine⟨g,c,fun i=>bv.getD i (.slice none 0 0),by rw[bvl],(h2.lt g rfl).2,fun i hi=>?_⟩;have e:bv[i]?=some (bv.getD i (.slice none 0 0)):=by rw[jJ,List.getElem?_eq_getElem (by omega)];rfl
 refine⟨(h2.cellAt i (by omega)).trans e,?_⟩;have h3:u.ownsRow B 89 11 (bv.getD i (.slice none 0 0)) (Fs (Pv i).L 0 (Pv i).n).length (cs (Fs (Pv i).L 0 (Pv i).n)):=rows.own (3+i) ⟨89,11,bv.getD i (.slice none 0 0),(Fs (Pv i).L 0 (Pv i).n).length,cs (Fs (Pv i).L 0 (Pv i).n)⟩ (by
  rw[show 3+i=i+3 by omega];show(Gq bv _)[i]?=_;unfold Gq;rw[List.getElem?_zipWith,e,List.getElem?_map,List.getElem?_range hi];rfl)
 by_cases h0:(Pv i).n=0
 ·rw[h0]at h3
  exact .inl ⟨h0,XK h3⟩
 ·exact .inr ⟨by omega,YJ h3 (by omega)⟩
end Go.Proofs.YtfpeecaaleijcaaGreatDoor
