import Derived.Test.YtfpeecaaleijcaaGreatDoorOfCl
import Derived.Test.YtfpeecaaleijcaaGreatDoorOfFu6c
import Derived.Test.YtfpeecaaleijcaaGreatDoorOfAddBlock
set_option maxHeartbeats 16000000
set_option maxRecDepth 20000
namespace Go.Proofs.YtfpeecaaleijcaaGreatDoor
open Go.RowKit Go.Deep
variable {c z:Int}{xs:List SV}{bA cA cap cg g gA n nH np p:Nat}{S:Nat->HS}{P:Nat->Prop}{V V0:Nat->VV}{ao:Option Addr}{u u' v v':World}
def ZA(d:Nat):Prop:=∀(p:Nat)(ao:Option Addr)(n cap:Nat)(bH cH nH:Nat)(S:Nat->HS)(bR cR:Nat)(V0:Nat->VV)(bA cA:Nat)(V:Nat->VV)(z c:Int)(m:Nat)(busy:Int)(w:World),m<=30->Bj w p ao n cap->Bl w bH nH S bR 8 V0->A9 w bA (8*6) (vF V)->BA nH S 8 V0 8 V z c=true->bH≠p->bR≠p->bA≠p->
 Calls Tryz.prog 67 #[Vq p,.agg #[Vs bH nH cH,Vs bR 8 cR],.agg #[Vs bA 8 cA,Vi z,Vi c],Vi (m:Int),Vi (d:Int),Vi busy] w (Wi nH S V0 bA (m*gb d) w p ao n cap)
structure DR(nH:Nat)(S:Nat->HS)(V0:Nat->VV)(bA:Nat)(u:World)(p:Nat)(ao:Option Addr)(n cap:Nat)(g cg:Nat)(xs:List SV)(np gA cA:Nat)(V:Nat->VV)(z c:Int)(v:World):Prop where
 F:Fw p u v
 K:Bj v p ao n cap
 row:v.ownsRow u.heap.size 89 11 (Vs g xs.length cg) xs.length (BZ xs)
 P:V3 v np 136 (Vs gA 8 cA) (Vi z) (Vi c)
 nw:gA=bA∨u.heap.size<=gA
 ne:gA≠np
 A:A9 v gA (8*6) (vF V)
 ok:BA nH S 8 V0 8 V z c=true
 on:u.heap.size<=np
theorem DR.fw(h:DR nH S V0 bA u p ao n cap g cg xs np gA cA V z c v)(hp:p<u.heap.size)(hA:bA≠p)(f:Fw p v v')(k:Bj v' p ao n cap):DR nH S V0 bA u p ao n cap g cg xs np gA cA V z c v':=by
 have:=h.on;have:=h.nw;exact⟨h.F.trans f,k,DX h.row f hp,CJ h.P f (by omega),h.nw,h.ne,f.arr h.A (by omega),h.ok,h.on⟩
theorem DR.below(h:DR nH S V0 bA u p ao n cap g cg xs np gA cA V z c v)(hp:p<u.heap.size)(hA:bA≠p)(f:Below v.heap.size v v'):DR nH S V0 bA u p ao n cap g cg xs np gA cA V z c v':=h.fw hp hA (.of_below f) (h.K.below f)
theorem Tf{t:World}(f0:Fw p u t)(row:v.ownsRow t.heap.size 89 11 (Vs g xs.length cg) xs.length (BZ xs))(nw:gA=bA∨t.heap.size<=gA)(A:A9 v gA (8*6) (vF V))(ok:BA nH S 8 V0 8 V z c=true)(f:Fw p t v)(k:Bj v p ao n cap):DR nH S V0 bA u p ao n cap g cg xs v.heap.size gA cA V z c (v.alloc (.cells #[Vs gA 8 cA,Vi z,Vi c] 136)):=by
 have s0:=f0.size;have s1:=f.size;have bn:Below v.heap.size v (v.alloc (.cells #[Vs gA 8 cA,Vi z,Vi c] 136)):=Ak;exact⟨(f0.trans f).trans (.of_below bn),k.below bn,Ah (Au row s0) bn,V3.new _ _ _ _ _,by omega,by have:=A.lt;omega,A.below bn A.lt,ok,by omega⟩
theorem JI{x y q:Value}{t:World}(f0:Fw p u t)(hu:p<u.heap.size)(hA:bA<u.heap.size)(hn:V3 t np 136 x y q)(on:u.heap.size<=np)(row:v.ownsRow t.heap.size 89 11 (Vs g xs.length cg) xs.length (BZ xs))(nw:gA=bA∨t.heap.size<=gA)(A:A9 v gA (8*6) (vF V))(ok:BA nH S 8 V0 8 V z c=true)(f:Fw p t v)(k:Bj v p ao n cap):DR nH S V0 bA u p ao n cap g cg xs np gA cA V z c (((v.setCell (Va np 0) (Vs gA 8 cA)).setCell (Va np 1) (Vi z)).setCell (Va np 2) (Vi c)):=by
 have s0:=f0.size;have l0:=hn.lt;have hne:gA≠np:=by omega
 have hv:V3 v np 136 x y q:=CJ hn f (by omega);exact⟨Ef (f0.trans f) on _ _ _,EC k (by omega) _ _ _,Dj (Au row s0) (Am hv row (by decide)) _ _ _,hv.set _ _ _,by omega,hne,DY A hne _ _ _,ok,on⟩
theorem TL:(Tryz.prog.info? 89).map (fun i=>(i.zero,i.size,i.bytes))=some (some (.agg #[Vi 0,Vi 0,Vi 0,Vi 0,Vi 0,Vi 0,Vi 0,Vi 0,Vi 0,Vi 0,Vi 0]),11,88):=by kernel_rfl
theorem Uv(xs:List SV):∀u∈BZ xs,u.oneCell'=true:=by
 intro u hu;simp only[BZ,List.mem_flatMap]at hu;obtain⟨s,_,hs⟩:=hu;simp only[CV,List.mem_cons,List.not_mem_nil,or_false]at hs;rcases hs with rfl|rfl|rfl|rfl|rfl|rfl|rfl|rfl|rfl|rfl|rfl<;>rfl
theorem Oz{w:World}{B e s:Nat}{v:Value}{xs:List Value}(h:w.ownsRow B e s v n xs)(hv:v≠ .slice none 0 0):∃g c,v=Vs g n c:=by
 rcases h.2 with⟨h,h0⟩|⟨g,cap,cur,h,_⟩
 ·exact absurd h hv
 ·exact⟨_,_,h⟩
theorem Dn(w:World)(B g cg:Nat)(xs:List SV)(o:w.ownsRow B 89 11 (Vs g xs.length cg) xs.length (BZ xs))(B' g' cg':Nat)(ys:List SV)(o':w.ownsRow B' 89 11 (Vs g' ys.length cg') ys.length (BZ ys))(hl:xs.length+ys.length<=1048576)(hB:B<=w.heap.size):
 ∃g2 c2 w',(Builtin.append_ #[36,36] 36 #[Vs g xs.length cg,Vs g' ys.length cg']).run Tryz.prog w=.ok (Vs g2 (xs++ys).length c2) w'/\w'.ownsRow B 89 11 (Vs g2 (xs++ys).length c2) (xs++ys).length (BZ (xs++ys))/\w.grownBy w' (some g)/\(g2=g∨g2=w.heap.size):=by
 obtain⟨iS,gS,gS0,gS1,gS2⟩:=info_parts TL;obtain⟨v',w',h1,h2,h3,h4,h5⟩:=run_append_own_at (P:=Tryz.prog) w B 36 36 89 iS _ 11 88 Tryz.underlying36 gS gS0 gS1 gS2 rfl (by decide) _ _ _ o ⟨g',0,none⟩ ys.length cg' (BZ ys) (IB ys) (fun j u hj=>by
  have hj':j<ys.length*11:=by
   have:=(List.getElem?_eq_some_iff.1 hj).1;rw[IB]at this;exact this
  rw[Addr.add_lit,Nat.zero_add,o'.cellAt j hj'];exact hj) (Uv ys) (by unfold maxLen;omega) (by omega) hB
 have hn:v'≠ .slice none 0 0:=fun e=>by
  have:=(h4.1 e).1;simp at this
 obtain⟨g2,c2,rfl⟩:=Oz h2 hn;rw[<-List.length_append,<-VJ]at h2;rw[<-List.length_append]at h1;refine⟨g2,c2,w',h1,by simpa using h2,h3,?_⟩;rcases h5 with h5|h5
 ·exact Or.inl (Option.some.inj h5)
 ·exact Or.inr (Option.some.inj h5)
def Tm(P:Nat->Prop)(u u':World):Prop:=∀q,q<u.heap.size->¬P q->u'.heap[q]?=u.heap[q]?
theorem Tm.of(h:Below u.heap.size u u'):Tm P u u':=fun q hq _=>h.block q hq
theorem Tm.below(h:Tm P u v)(hs:u.heap.size<=v.heap.size)(b:Below v.heap.size v v'):Tm P u v':=fun q hq hn=>(b.block q (by omega)).trans (h q hq hn)
theorem Tm.grown(h:Tm P u v)(hs:u.heap.size<=v.heap.size)(b:v.grownBy v' (some g))(hg:P g∨u.heap.size<=g):Tm P u v':=fun q hq hn=>(b.block q (by omega) (fun e=>by
 have e':=(Option.some.inj e).symm;rcases hg with hg|hg
 ·exact hn (e'▸hg)
 ·omega)).trans (h q hq hn)
theorem Tm.set3{b:Nat}(h:Tm P u u')(hb:P b)(x y z:Value):Tm P u (((u'.setCell (Va b 0) x).setCell (Va b 1) y).setCell (Va b 2) z):=fun q hq hn=>by
 have hne:q≠b:=fun e=>hn (e▸hb)
 rw[Below.heap_setCell _ ⟨b,2,none⟩ z q hne,Below.heap_setCell _ ⟨b,1,none⟩ y q hne,Below.heap_setCell _ ⟨b,0,none⟩ x q hne];exact h q hq hn
theorem A9.tm{b:Nat}{g:Nat->Value}(h:A9 u b n g)(f:Tm P u u')(hn:¬P b)(hs:u.heap.size<=u'.heap.size):A9 u' b n g:=
 ⟨jI h.lt hs,fun i=>(World.frozen?_of_block (a:=Va b i) (f b h.lt hn)).trans (h.free i),fun i hi=>(World.cell?_of_block (a:=Va b i) (f b h.lt hn)).trans (h.cell hi)⟩
theorem VZ:∀{d e:Nat},d<=e->gb d<=gb e
 |d,0,h=>by rw[show d=0 by omega];exact jG
 |d,e+1,h=>by
  by_cases q:d=e+1
  ·rw[q];exact jG
  ·have:=VZ (d:=d) (e:=e) (by omega)
   show gb d<=6+5*gb e;omega
theorem Xz{d:Nat}(h:d<=3):gb d<=1000:=Nat.le_trans (VZ h) (by decide)
theorem SG(d:Nat)(IH:ZA d)(hd:d<=3)(p:Nat)(ao:Option Addr)(n cap:Nat)(bH cH nH:Nat)(S:Nat->HS)(bR cR:Nat)(V0:Nat->VV)(bA cA:Nat)(V:Nat->VV)(z c busy:Int)(w:World)(hc:Bj w p ao n cap)(h1:Bl w bH nH S bR 8 V0)(h2:A9 w bA (8*6) (vF V))(h3:BA nH S 8 V0 8 V z c=true)(p1:bH≠p)(p2:bR≠p)(p3:bA≠p):
 Calls Tryz.prog 99 #[Vq p,.agg #[Vs bH nH cH,Vs bR 8 cR],.agg #[Vs bA 8 cA,Vi z,Vi c],Vi ((d+1:Nat):Int),Vi busy] w (Wi nH S V0 bA (gb (d+1)) w p ao n cap):=by
 have X0:Hid (Ep w p ao n cap bH cH nH S bR cR V0 bA cA V z c w.heap.size (w.heap.size+1) (w.heap.size+1+1) (((w.alloc (.cells #[Vs bH nH cH,Vs bR 8 cR] 26)).alloc (.cells #[Vs bA 8 cA,Vi z,Vi c] 136)).alloc (.cells #[.slice none 0 0,Vi 0,Vi 0] 136))):=Ph w hc h1 h2 h3 p1 p2 p3;have LA:=hxy h2.lt;have lp:=hc.lt;clear hc h1 h2 h3 p1 p2;go_enter Tryz.func99,Tryz.ntmps99;go_upto_region 1 with fail;obtain⟨u,hu⟩:=Ae (((w.alloc (.cells #[Vs bH nH cH,Vs bR 8 cR] 26)).alloc (.cells #[Vs bA 8 cA,Vi z,Vi c] 136)).alloc (.cells #[.slice none 0 0,Vi 0,Vi 0] 136));rw[hu]at X0⊢;obtain⟨bs,hbs⟩:=Ae w.heap.size;obtain⟨ba,hba⟩:=Ae (w.heap.size+1);obtain⟨br,hbr⟩:=Ae (w.heap.size+1+1);have X0:Hid (Ep w p ao n cap bH cH nH S bR cR V0 bA cA V z c bs ba br u):=by rw[<-hbs,<-hba,<-hbr];exact X0
 rw[hbr,hba,hbs];have BO:Hid (w.heap.size=bs/\bs<ba/\ba<br):=⟨hbs,by omega,by omega⟩
 clear hu hbs hba hbr;go_wp2_with fail;refine(Aa p ao n cap 4 _ (by omega) X0.out.K).mono ?_;rintro e y1⟨cd,rfl,cd0,cd4,f,k'⟩;have X1:=hxy (X0.out.fw f k');clear f k' X0;obtain⟨_,⟨a0,a1,a2⟩,al1,al2⟩:=X1.out.cells;go_wp2_with fail;refine(JC _ _ _ _ _ _ _).mono ?_;rintro e y2⟨⟨fr,rfl⟩,hb⟩;have X2:=hxy (X1.out.below hb);clear hb X1 a0 a1 a2 al1 al2;by_cases hf:fr=0
 rotate_left
 ·obtain⟨⟨s0,s1⟩,⟨a0,a1,a2⟩,al1,al2⟩:=X2.out.cells
  go_wp2_with fail;refine(E5 p ao n cap bH cH nH S bR cR V0 bA cA V z c busy y2 X2.out.K X2.out.sc X2.out.G X2.out.ok X2.out.p1 X2.out.p2 X2.out.p3).mono ?_;rintro e y3⟨g,cg,xs,gA,cA',V',z',c',rfl,hwl,hlen,hrow,nwA,hA,okA,f,k'⟩;have X3:=hxy (X2.out.fw f k');have hs2:=X2.out.F.size;have hbr2:=X2.out.R.lt
  have hgbr:gA≠br:=by rcases nwA with h|h;·rw[h];exact X2.out.n3
                      ·omega
  have HR:=hxy (Au hrow hs2);have RES:Hid (Wl xs/\xs.length<=gb (d+1)/\(gA=bA∨w.heap.size<=gA)/\A9 y3 gA (8*6) (vF V')/\BA nH S 8 V0 8 V' z' c'=true):=⟨hwl,by have:=NA (d+1);omega,by omega,hA,okA⟩
  obtain⟨r0,r1,r2⟩:=X3.out.R.cells;have rf:=X3.out.R.free;have rl:=X3.out.R.lt;have hrn:(Vs g xs.length cg).ownBlock≠some br:=Am X3.out.R HR.out (by decide);clear f k' hwl hlen hrow nwA hA okA s0 s1 a0 a1 a2 al1 al2 X2;go_wp2_with fail;refine bodyPost_ret (v:=.tuple #[Vs g xs.length cg,.agg #[Vs gA 8 cA',Vi z',Vi c']]) (by simp[results,Tryz.results99,go_sem, *]) rfl ⟨g,cg,xs,gA,cA',V',z',c',rfl,RES.out.1,RES.out.2.1,Dj HR.out hrn _ _ _,RES.out.2.2.1,DY RES.out.2.2.2.1 hgbr _ _ _,RES.out.2.2.2.2,Ef X3.out.F (by have:=BO.out;omega) _ _ _,EC X3.out.K (by have:=BO.out;omega) _ _ _⟩
 subst hf;go_upto_region 4 with fail;go_cut [13,14](fun s13 s14 wx=>∃(g cg:Nat)(xs:List SV)(np gA cA':Nat)(V':Nat->VV)(z' c':Int),s13=Vs g xs.length cg/\s14=Vq np/\Wl xs/\xs.length<=3*gb d/\DR nH S V0 bA y2 p ao n cap g cg xs np gA cA' V' z' c' wx)
 case first=>
  have SS:∀w',Fw p y2 w'/\Bj w' p ao n cap->Ep w p ao n cap bH cH nH S bR cR V0 bA cA V z c bs ba br w':=fun w' h=>X2.out.fw h.1 h.2
  have j0:∀w',Fw p y2 w'/\Bj w' p ao n cap->w'.cell? (Va bs 0)=some (Vs bH nH cH):=fun w' h=>(SS w' h).cells.1.1
  have j1:∀w',Fw p y2 w'/\Bj w' p ao n cap->w'.cell? (Va bs 1)=some (Vs bR 8 cR):=fun w' h=>(SS w' h).cells.1.2
  have j2:∀w',Fw p y2 w'/\Bj w' p ao n cap->w'.cell? (Va ba 0)=some (Vs bA 8 cA):=fun w' h=>(SS w' h).cells.2.1.1
  have j3:∀w',Fw p y2 w'/\Bj w' p ao n cap->w'.cell? (Va ba 1)=some (Vi z):=fun w' h=>(SS w' h).cells.2.1.2.1
  have j4:∀w',Fw p y2 w'/\Bj w' p ao n cap->w'.cell? (Va ba 2)=some (Vi c):=fun w' h=>(SS w' h).cells.2.1.2.2
  have hwd:IntKind.i64.wrap (d:Int)=(d:Int):=by rw[IntKind.wrap_i64]<;>omega
  have HSS:=hxy SS;have hpu:p<y2.heap.size:=by have:=X2.out.F.size;omega
  have hAu:bA<y2.heap.size:=by have:=X2.out.G.lt;omega
  clear SS;refine wp_region_held_drew (S:=fun w'=>Fw p y2 w'/\Bj w' p ao n cap) (by kernel_rfl) ⟨.of_below (Below.refl _ _).drew,X2.out.K.below (Below.refl _ _).drew⟩ (fun hH=>?_);refine AB 0 rfl ?_;refine AB 1 rfl ?_;refine AB 2 rfl ?_;refine AB 3 rfl ?_;refine AB 5 rfl ?_;refine AB 6 rfl ?_;refine AB 7 rfl ?_;generalize y2.drew=t0 at hH⊢;have q0:=hH;clear hH
  refine wpAnyH_ready (rs:=[4,12]) (by kernel_rfl) (by simp) ?_
  refine AllReadyH.cons rfl (fun KK hK=>?_) (AllReadyH.cons rfl (fun KK hK=>?_) AllReadyH.nil)
  ·skip
   go_simp
   refine(Aa p ao n cap 4 _ (by omega) q0.2).mono ?_
   rintro e t1⟨md,rfl,md0,md1,f,k'⟩
   have q0':Fw p y2 t1/\Bj t1 p ao n cap:=⟨q0.1.trans f,k'⟩
   obtain⟨mn,hmn⟩:∃mn:Nat,md=(mn:Int):=⟨md.toNat,by omega⟩
   subst hmn
   refine hK.out _ _ q0' (fun _=>?_)
   clear hK KK q0 f k'
   have q0:=q0'
   clear q0'
   try simp only[Act.put,BP,BN,BK,BQ,BS,BM]
   refine wpAnyH_ready (rs:=[8,12]) (by kernel_rfl) (by simp) ?_
   refine AllReadyH.cons rfl (fun KK hK=>?_) (AllReadyH.cons rfl (fun KK hK=>?_) AllReadyH.nil)
   ·skip
    go_simp
    have gx:=HSS.out _ q0
    refine(IH p ao n cap bH cH nH S bR cR V0 bA cA V z c mn _ _ (by omega) q0.2 gx.sc gx.G gx.ok gx.p1 gx.p2 gx.p3).mono ?_
    rintro e t2⟨g,cg,xs,gA,cA',V',z',c',rfl,hwl,hlen,hrow,nwA,hA,okA,f,k'⟩
    have q0':Fw p y2 t2/\Bj t2 p ao n cap:=⟨q0.1.trans f,k'⟩
    refine hK.out _ _ q0' (fun _=>?_)
    clear hK KK
    try simp only[Act.put,BP,BN,BK,BQ,BS,BM]
    refine AB 9 rfl ?_
    refine AB 10 rfl ?_
    refine AB 11 rfl ?_
    have hlen':xs.length<=3*gb d:=Nat.le_trans hlen (Nat.mul_le_mul_right _ (by omega))
    have DD:Hid (DR nH S V0 bA y2 p ao n cap g cg xs t2.heap.size gA cA' V' z' c' (t2.alloc (.cells #[Vs gA 8 cA',Vi z',Vi c'] 136))):=Tf q0.1 hrow nwA hA okA f k'
    clear gx hlen hrow nwA hA okA f k' q0 j0 j1 j2 j3 j4
    refine AO 12 rfl (fun KK hK=>?_)
    go_simp
    refine hK.out _ _ ⟨q0'.1.trans (.of_below Ak),q0'.2.below Ak⟩ (fun _=>?_)
    clear hK KK
    try simp only[Act.put,BP,BN,BK,BQ,BS,BM]
    refine AB 13 rfl ?_
    refine AO 14 rfl (fun KK hK=>?_)
    go_simp
    refine hK.out _ _ ⟨DD.out.F,DD.out.K⟩ (fun _=>?_)
    clear hK KK q0'
    refine wpAnyH_done (by kernel_rfl) ?_ _
    go_wp2_with fail
    go_meet
    exact⟨g,cg,xs,_,gA,cA',V',z',c',rfl,rfl,hwl,hlen',DD.out⟩
   ·skip
    go_simp
    obtain⟨t4,ht4,bn⟩:∃y,t1.alloc (.cells #[.slice none 0 0,Vi 0,Vi 0] 136)=y/\Below t1.heap.size t1 y:=⟨_,rfl,Ak⟩
    have nz:=V3.new t1 136 (.slice none 0 0) (Vi 0) (Vi 0)
    rw[ht4]at nz⊢
    have q0':Fw p y2 t4/\Bj t4 p ao n cap:=⟨q0.1.trans (.of_below bn),q0.2.below bn⟩
    have onp:=q0.1.size
    obtain⟨np,hnp⟩:=Ae t1.heap.size
    rw[hnp]at nz onp⊢
    refine hK.out _ _ q0' (fun _=>?_)
    clear hK KK q0 ht4 bn hnp
    have q0:=q0'
    clear q0'
    try simp only[Act.put,BP,BN,BK,BQ,BS,BM]
    refine AO 8 rfl (fun KK hK=>?_)
    go_simp
    have gx:=HSS.out _ q0
    refine(IH p ao n cap bH cH nH S bR cR V0 bA cA V z c mn _ _ (by omega) q0.2 gx.sc gx.G gx.ok gx.p1 gx.p2 gx.p3).mono ?_
    rintro e t5⟨g,cg,xs,gA,cA',V',z',c',rfl,hwl,hlen,hrow,nwA,hA,okA,f,k'⟩
    have q0':Fw p y2 t5/\Bj t5 p ao n cap:=⟨q0.1.trans f,k'⟩
    refine hK.out _ _ q0' (fun _=>?_)
    clear hK KK
    try simp only[Act.put,BP,BN,BK,BQ,BS,BM]
    refine AB 9 rfl ?_
    refine AB 10 rfl ?_
    refine AB 11 rfl ?_
    refine AB 13 rfl ?_
    have hlen':xs.length<=3*gb d:=Nat.le_trans hlen (Nat.mul_le_mul_right _ (by omega))
    have DD:Hid (DR nH S V0 bA y2 p ao n cap g cg xs np gA cA' V' z' c' (((t5.setCell (Va np 0) (Vs gA 8 cA')).setCell (Va np 1) (Vi z')).setCell (Va np 2) (Vi c'))):=JI q0.1 hpu hAu nz onp hrow nwA hA okA f k'
    have nv:=CJ nz f (by omega)
    obtain⟨e0,e1,e2⟩:=V3.cells nv
    have ef:=V3.free nv
    have el:=V3.lt nv
    clear nv nz gx hlen hrow nwA hA okA f k' q0 j0 j1 j2 j3 j4
    refine AO 14 rfl (fun KK hK=>?_)
    go_simp
    refine hK.out _ _ ⟨DD.out.F,DD.out.K⟩ (fun _=>?_)
    clear hK KK q0'
    refine wpAnyH_done (by kernel_rfl) ?_ _
    go_wp2_with fail
    go_meet
    exact⟨g,cg,xs,_,gA,cA',V',z',c',rfl,rfl,hwl,hlen',DD.out⟩
  ·skip
   go_simp
   obtain⟨t7,ht7,bn⟩:∃y,t0.alloc (.cells #[.slice none 0 0,Vi 0,Vi 0] 136)=y/\Below t0.heap.size t0 y:=⟨_,rfl,Ak⟩
   have nz:=V3.new t0 136 (.slice none 0 0) (Vi 0) (Vi 0)
   rw[ht7]at nz⊢
   have q0':Fw p y2 t7/\Bj t7 p ao n cap:=⟨q0.1.trans (.of_below bn),q0.2.below bn⟩
   have onp:=q0.1.size
   obtain⟨np,hnp⟩:=Ae t0.heap.size
   rw[hnp]at nz onp⊢
   refine hK.out _ _ q0' (fun _=>?_)
   clear hK KK q0 ht7 bn hnp
   have q0:=q0'
   clear q0'
   try simp only[Act.put,BP,BN,BK,BQ,BS,BM]
   refine AO 4 rfl (fun KK hK=>?_)
   go_simp
   refine(Aa p ao n cap 4 _ (by omega) q0.2).mono ?_
   rintro e t8⟨md,rfl,md0,md1,f,k'⟩
   have q0':Fw p y2 t8/\Bj t8 p ao n cap:=⟨q0.1.trans f,k'⟩
   have nz':V3 t8 np 136 (.slice none 0 0) (Vi 0) (Vi 0):=CJ nz f (by omega)
   obtain⟨mn,hmn⟩:∃mn:Nat,md=(mn:Int):=⟨md.toNat,by omega⟩
   subst hmn
   refine hK.out _ _ q0' (fun _=>?_)
   clear hK KK q0 f k' nz
   have q0:=q0'
   clear q0'
   try simp only[Act.put,BP,BN,BK,BQ,BS,BM]
   have nz:=nz'
   clear nz'
   refine AO 8 rfl (fun KK hK=>?_)
   go_simp
   have gx:=HSS.out _ q0
   refine(IH p ao n cap bH cH nH S bR cR V0 bA cA V z c mn _ _ (by omega) q0.2 gx.sc gx.G gx.ok gx.p1 gx.p2 gx.p3).mono ?_
   rintro e t9⟨g,cg,xs,gA,cA',V',z',c',rfl,hwl,hlen,hrow,nwA,hA,okA,f,k'⟩
   have q0':Fw p y2 t9/\Bj t9 p ao n cap:=⟨q0.1.trans f,k'⟩
   refine hK.out _ _ q0' (fun _=>?_)
   clear hK KK
   try simp only[Act.put,BP,BN,BK,BQ,BS,BM]
   refine AB 9 rfl ?_
   refine AB 10 rfl ?_
   refine AB 11 rfl ?_
   refine AB 13 rfl ?_
   have hlen':xs.length<=3*gb d:=Nat.le_trans hlen (Nat.mul_le_mul_right _ (by omega))
   have DD:Hid (DR nH S V0 bA y2 p ao n cap g cg xs np gA cA' V' z' c' (((t9.setCell (Va np 0) (Vs gA 8 cA')).setCell (Va np 1) (Vi z')).setCell (Va np 2) (Vi c'))):=JI q0.1 hpu hAu nz onp hrow nwA hA okA f k'
   have nv:=CJ nz f (by omega)
   obtain⟨e0,e1,e2⟩:=V3.cells nv
   have ef:=V3.free nv
   have el:=V3.lt nv
   clear nv nz gx hlen hrow nwA hA okA f k' q0 j0 j1 j2 j3 j4
   refine AO 14 rfl (fun KK hK=>?_)
   go_simp
   refine hK.out _ _ ⟨DD.out.F,DD.out.K⟩ (fun _=>?_)
   clear hK KK q0'
   refine wpAnyH_done (by kernel_rfl) ?_ _
   go_wp2_with fail
   go_meet
   exact⟨g,cg,xs,_,gA,cA',V',z',c',rfl,rfl,hwl,hlen',DD.out⟩
 case rest=>
 obtain⟨g1,c1,xs1,np,gp,cp,Vp,zp,qp,rfl,rfl,wl1,len1,d1⟩:=hcut
 have D1:=hxy d1
 have X3:=hxy (X2.out.fw d1.F d1.K)
 have WL1:Hid (Wl xs1/\xs1.length<=3*gb d):=⟨wl1,len1⟩
 have HP2:Hid (p<y2.heap.size/\br<y2.heap.size/\w.heap.size<=y2.heap.size/\bA<y2.heap.size):=⟨by have:=X2.out.F.size;omega,X2.out.R.lt,X2.out.F.size,X2.out.G.lt⟩
 clear d1 wl1 len1 X2
 generalize wc=y3 at D1 X3⊢
 go_upto_region 5 with fail
 go_cut [15,16](fun s15 s16 wx=>∃(g cg:Nat)(xs:List SV)(np gA cA':Nat)(V':Nat->VV)(z' c':Int),s15=Vs g xs.length cg/\s16=Vq np/\Wl xs/\xs.length<=2*gb d/\DR nH S V0 bA y3 p ao n cap g cg xs np gA cA' V' z' c' wx)
 case first=>
  have SS:∀w',Fw p y3 w'/\Bj w' p ao n cap->Ep w p ao n cap bH cH nH S bR cR V0 bA cA V z c bs ba br w':=fun w' h=>X3.out.fw h.1 h.2
  have j0:∀w',Fw p y3 w'/\Bj w' p ao n cap->w'.cell? (Va bs 0)=some (Vs bH nH cH):=fun w' h=>(SS w' h).cells.1.1
  have j1:∀w',Fw p y3 w'/\Bj w' p ao n cap->w'.cell? (Va bs 1)=some (Vs bR 8 cR):=fun w' h=>(SS w' h).cells.1.2
  have j2:∀w',Fw p y3 w'/\Bj w' p ao n cap->w'.cell? (Va ba 0)=some (Vs bA 8 cA):=fun w' h=>(SS w' h).cells.2.1.1
  have j3:∀w',Fw p y3 w'/\Bj w' p ao n cap->w'.cell? (Va ba 1)=some (Vi z):=fun w' h=>(SS w' h).cells.2.1.2.1
  have j4:∀w',Fw p y3 w'/\Bj w' p ao n cap->w'.cell? (Va ba 2)=some (Vi c):=fun w' h=>(SS w' h).cells.2.1.2.2
  have hwd:IntKind.i64.wrap (d:Int)=(d:Int):=by rw[IntKind.wrap_i64]<;>omega
  have HSS:=hxy SS
  have hpu:p<y3.heap.size:=by have:=X3.out.F.size;omega
  have hAu:bA<y3.heap.size:=by have:=X3.out.G.lt;omega
  clear SS
  refine wp_region_held_drew (S:=fun w'=>Fw p y3 w'/\Bj w' p ao n cap) (by kernel_rfl) ⟨.of_below (Below.refl _ _).drew,X3.out.K.below (Below.refl _ _).drew⟩ (fun hH=>?_)
  refine AB 0 rfl ?_
  refine AB 1 rfl ?_
  refine AB 2 rfl ?_
  refine AB 3 rfl ?_
  refine AB 5 rfl ?_
  refine AB 6 rfl ?_
  refine AB 7 rfl ?_
  generalize y3.drew=t0 at hH⊢
  have q0:=hH
  clear hH
  refine wpAnyH_ready (rs:=[4,12]) (by kernel_rfl) (by simp) ?_
  refine AllReadyH.cons rfl (fun KK hK=>?_) (AllReadyH.cons rfl (fun KK hK=>?_) AllReadyH.nil)
  ·skip
   go_simp
   refine(Aa p ao n cap 3 _ (by omega) q0.2).mono ?_
   rintro e t11⟨md,rfl,md0,md1,f,k'⟩
   have q0':Fw p y3 t11/\Bj t11 p ao n cap:=⟨q0.1.trans f,k'⟩
   obtain⟨mn,hmn⟩:∃mn:Nat,md=(mn:Int):=⟨md.toNat,by omega⟩
   subst hmn
   refine hK.out _ _ q0' (fun _=>?_)
   clear hK KK q0 f k'
   have q0:=q0'
   clear q0'
   try simp only[Act.put,BP,BN,BK,BQ,BS,BM]
   refine wpAnyH_ready (rs:=[8,12]) (by kernel_rfl) (by simp) ?_
   refine AllReadyH.cons rfl (fun KK hK=>?_) (AllReadyH.cons rfl (fun KK hK=>?_) AllReadyH.nil)
   ·skip
    go_simp
    have gx:=HSS.out _ q0
    refine(IH p ao n cap bH cH nH S bR cR V0 bA cA V z c mn _ _ (by omega) q0.2 gx.sc gx.G gx.ok gx.p1 gx.p2 gx.p3).mono ?_
    rintro e t12⟨g,cg,xs,gA,cA',V',z',c',rfl,hwl,hlen,hrow,nwA,hA,okA,f,k'⟩
    have q0':Fw p y3 t12/\Bj t12 p ao n cap:=⟨q0.1.trans f,k'⟩
    refine hK.out _ _ q0' (fun _=>?_)
    clear hK KK
    try simp only[Act.put,BP,BN,BK,BQ,BS,BM]
    refine AB 9 rfl ?_
    refine AB 10 rfl ?_
    refine AB 11 rfl ?_
    have hlen':xs.length<=2*gb d:=Nat.le_trans hlen (Nat.mul_le_mul_right _ (by omega))
    have DD:Hid (DR nH S V0 bA y3 p ao n cap g cg xs t12.heap.size gA cA' V' z' c' (t12.alloc (.cells #[Vs gA 8 cA',Vi z',Vi c'] 136))):=Tf q0.1 hrow nwA hA okA f k'
    clear gx hlen hrow nwA hA okA f k' q0 j0 j1 j2 j3 j4
    refine AO 12 rfl (fun KK hK=>?_)
    go_simp
    refine hK.out _ _ ⟨q0'.1.trans (.of_below Ak),q0'.2.below Ak⟩ (fun _=>?_)
    clear hK KK
    try simp only[Act.put,BP,BN,BK,BQ,BS,BM]
    refine AB 13 rfl ?_
    refine AO 14 rfl (fun KK hK=>?_)
    go_simp
    refine hK.out _ _ ⟨DD.out.F,DD.out.K⟩ (fun _=>?_)
    clear hK KK q0'
    refine wpAnyH_done (by kernel_rfl) ?_ _
    go_wp2_with fail
    go_meet
    exact⟨g,cg,xs,_,gA,cA',V',z',c',rfl,rfl,hwl,hlen',DD.out⟩
   ·skip
    go_simp
    obtain⟨t14,ht14,bn⟩:∃y,t11.alloc (.cells #[.slice none 0 0,Vi 0,Vi 0] 136)=y/\Below t11.heap.size t11 y:=⟨_,rfl,Ak⟩
    have nz:=V3.new t11 136 (.slice none 0 0) (Vi 0) (Vi 0)
    rw[ht14]at nz⊢
    have q0':Fw p y3 t14/\Bj t14 p ao n cap:=⟨q0.1.trans (.of_below bn),q0.2.below bn⟩
    have onp:=q0.1.size
    obtain⟨np,hnp⟩:=Ae t11.heap.size
    rw[hnp]at nz onp⊢
    refine hK.out _ _ q0' (fun _=>?_)
    clear hK KK q0 ht14 bn hnp
    have q0:=q0'
    clear q0'
    try simp only[Act.put,BP,BN,BK,BQ,BS,BM]
    refine AO 8 rfl (fun KK hK=>?_)
    go_simp
    have gx:=HSS.out _ q0
    refine(IH p ao n cap bH cH nH S bR cR V0 bA cA V z c mn _ _ (by omega) q0.2 gx.sc gx.G gx.ok gx.p1 gx.p2 gx.p3).mono ?_
    rintro e t15⟨g,cg,xs,gA,cA',V',z',c',rfl,hwl,hlen,hrow,nwA,hA,okA,f,k'⟩
    have q0':Fw p y3 t15/\Bj t15 p ao n cap:=⟨q0.1.trans f,k'⟩
    refine hK.out _ _ q0' (fun _=>?_)
    clear hK KK
    try simp only[Act.put,BP,BN,BK,BQ,BS,BM]
    refine AB 9 rfl ?_
    refine AB 10 rfl ?_
    refine AB 11 rfl ?_
    refine AB 13 rfl ?_
    have hlen':xs.length<=2*gb d:=Nat.le_trans hlen (Nat.mul_le_mul_right _ (by omega))
    have DD:Hid (DR nH S V0 bA y3 p ao n cap g cg xs np gA cA' V' z' c' (((t15.setCell (Va np 0) (Vs gA 8 cA')).setCell (Va np 1) (Vi z')).setCell (Va np 2) (Vi c'))):=JI q0.1 hpu hAu nz onp hrow nwA hA okA f k'
    have nv:=CJ nz f (by omega)
    obtain⟨e0,e1,e2⟩:=V3.cells nv
    have ef:=V3.free nv
    have el:=V3.lt nv
    clear nv nz gx hlen hrow nwA hA okA f k' q0 j0 j1 j2 j3 j4
    refine AO 14 rfl (fun KK hK=>?_)
    go_simp
    refine hK.out _ _ ⟨DD.out.F,DD.out.K⟩ (fun _=>?_)
    clear hK KK q0'
    refine wpAnyH_done (by kernel_rfl) ?_ _
    go_wp2_with fail
    go_meet
    exact⟨g,cg,xs,_,gA,cA',V',z',c',rfl,rfl,hwl,hlen',DD.out⟩
  ·skip
   go_simp
   obtain⟨t17,ht17,bn⟩:∃y,t0.alloc (.cells #[.slice none 0 0,Vi 0,Vi 0] 136)=y/\Below t0.heap.size t0 y:=⟨_,rfl,Ak⟩
   have nz:=V3.new t0 136 (.slice none 0 0) (Vi 0) (Vi 0)
   rw[ht17]at nz⊢
   have q0':Fw p y3 t17/\Bj t17 p ao n cap:=⟨q0.1.trans (.of_below bn),q0.2.below bn⟩
   have onp:=q0.1.size
   obtain⟨np,hnp⟩:=Ae t0.heap.size
   rw[hnp]at nz onp⊢
   refine hK.out _ _ q0' (fun _=>?_)
   clear hK KK q0 ht17 bn hnp
   have q0:=q0'
   clear q0'
   try simp only[Act.put,BP,BN,BK,BQ,BS,BM]
   refine AO 4 rfl (fun KK hK=>?_)
   go_simp
   refine(Aa p ao n cap 3 _ (by omega) q0.2).mono ?_
   rintro e t18⟨md,rfl,md0,md1,f,k'⟩
   have q0':Fw p y3 t18/\Bj t18 p ao n cap:=⟨q0.1.trans f,k'⟩
   have nz':V3 t18 np 136 (.slice none 0 0) (Vi 0) (Vi 0):=CJ nz f (by omega)
   obtain⟨mn,hmn⟩:∃mn:Nat,md=(mn:Int):=⟨md.toNat,by omega⟩
   subst hmn
   refine hK.out _ _ q0' (fun _=>?_)
   clear hK KK q0 f k' nz
   have q0:=q0'
   clear q0'
   try simp only[Act.put,BP,BN,BK,BQ,BS,BM]
   have nz:=nz'
   clear nz'
   refine AO 8 rfl (fun KK hK=>?_)
   go_simp
   have gx:=HSS.out _ q0
   refine(IH p ao n cap bH cH nH S bR cR V0 bA cA V z c mn _ _ (by omega) q0.2 gx.sc gx.G gx.ok gx.p1 gx.p2 gx.p3).mono ?_
   rintro e t19⟨g,cg,xs,gA,cA',V',z',c',rfl,hwl,hlen,hrow,nwA,hA,okA,f,k'⟩
   have q0':Fw p y3 t19/\Bj t19 p ao n cap:=⟨q0.1.trans f,k'⟩
   refine hK.out _ _ q0' (fun _=>?_)
   clear hK KK
   try simp only[Act.put,BP,BN,BK,BQ,BS,BM]
   refine AB 9 rfl ?_
   refine AB 10 rfl ?_
   refine AB 11 rfl ?_
   refine AB 13 rfl ?_
   have hlen':xs.length<=2*gb d:=Nat.le_trans hlen (Nat.mul_le_mul_right _ (by omega))
   have DD:Hid (DR nH S V0 bA y3 p ao n cap g cg xs np gA cA' V' z' c' (((t19.setCell (Va np 0) (Vs gA 8 cA')).setCell (Va np 1) (Vi z')).setCell (Va np 2) (Vi c'))):=JI q0.1 hpu hAu nz onp hrow nwA hA okA f k'
   have nv:=CJ nz f (by omega)
   obtain⟨e0,e1,e2⟩:=V3.cells nv
   have ef:=V3.free nv
   have el:=V3.lt nv
   clear nv nz gx hlen hrow nwA hA okA f k' q0 j0 j1 j2 j3 j4
   refine AO 14 rfl (fun KK hK=>?_)
   go_simp
   refine hK.out _ _ ⟨DD.out.F,DD.out.K⟩ (fun _=>?_)
   clear hK KK q0'
   refine wpAnyH_done (by kernel_rfl) ?_ _
   go_wp2_with fail
   go_meet
   exact⟨g,cg,xs,_,gA,cA',V',z',c',rfl,rfl,hwl,hlen',DD.out⟩
 case rest=>
 obtain⟨g2,c2,xs2,nq,gq,cq,Vq,zq,qq,rfl,rfl,wl2,len2,d2⟩:=hcut
 have D2:=hxy d2
 have D3:=hxy (D1.out.fw HP2.out.1 p3 d2.F d2.K)
 have X4:=hxy (X3.out.fw d2.F d2.K)
 have WL2:Hid (Wl xs2/\xs2.length<=2*gb d):=⟨wl2,len2⟩
 have HP3:=hxy D1.out.F.size
 have hnp3:np<y3.heap.size:=D1.out.P.lt
 clear d2 wl2 len2 X3 D1
 generalize wc=y4 at D2 D3 X4⊢
 have hgb:gb d<=1000:=Xz hd
 have hl1:xs1.length<=3*gb d:=WL1.out.2
 have hl2:xs2.length<=2*gb d:=WL2.out.2
 have hgs:gb (d+1)=6+5*gb d:=rfl
 go_upto_region 7 with fail
 obtain⟨s,hs⟩:∃s:SV,(⟨2,0,0,0,0,0,0,1+cd,(xs1.length:Int),(xs2.length:Int),0⟩:SV)=s:=⟨_,rfl⟩
 obtain⟨y5,hy5,b5,o5⟩:∃y,y4.alloc (.cells #[Vi 2,Vi 0,Vi 0,Vi 0,Vi 0,Vi 0,Vi 0,Vi (1+cd),Vi (xs1.length:Int),Vi (xs2.length:Int),Vi 0] 89)=y/\Below y4.heap.size y4 y/\y.ownsRow y4.heap.size 89 11 (Vs y4.heap.size 1 1) 1 (BZ [s]):=⟨_,rfl,Ak,by rw[ED,<-hs];exact World.ownsRow_lit y4 (CV ⟨2,0,0,0,0,0,0,1+cd,(xs1.length:Int),(xs2.length:Int),0⟩).toArray 1 jG (by unfold maxLen;omega) rfl⟩
 rw[hy5]
 have HS:=hxy hs
 have hw4:w.heap.size<=y4.heap.size:=X4.out.F.size
 have hbr4:br<y4.heap.size:=X4.out.R.lt
 have hnp4:np<y4.heap.size:=D3.out.P.lt
 have hnq4:nq<y4.heap.size:=D2.out.P.lt
 have hgp4:gp<y4.heap.size:=D3.out.A.lt
 have hgq4:gq<y4.heap.size:=D2.out.A.lt
 have hz2:=D3.out.on
 have hz3:=D2.out.on
 have hgpb:gp≠br:=by have:=D3.out.nw;have:=X4.out.n3;have:=HP2.out;omega
 have hgqb:gq≠br:=by have:=D2.out.nw;have:=X4.out.n3;have:=HP2.out;have:=HP3.out;omega
 have hnpb:np≠br:=by have:=HP2.out;omega
 have hnqb:nq≠br:=by have:=HP2.out;have:=HP3.out;omega
 obtain⟨ob,hob⟩:=Ae y4.heap.size
 have O5:Hid (y5.ownsRow w.heap.size 89 11 (.slice (some ⟨ob,0,none⟩) [s].length 1) [s].length (BZ [s])):=(by rw[<-hob];exact Au o5 hw4:y5.ownsRow w.heap.size 89 11 (.slice (some ⟨ob,0,none⟩) [s].length 1) [s].length (BZ [s]))
 have z5:y4.heap.size<y5.heap.size:=(o5.lt _ rfl).2
 rw[hob]at hw4 hbr4 hnp4 hnq4 hgp4 hgq4 z5⊢
 have X5:=hxy (X4.out.below b5)
 have DP:=hxy (D3.out.below HP2.out.1 p3 b5)
 have DQ:Hid (DR nH S V0 bA y3 p ao n cap g2 c2 xs2 nq gq cq Vq zq qq y5):=D2.out.below (by have:=HP2.out.1;have:=HP3.out;omega) p3 b5
 have G1:Hid (g1<ob/\g2<ob):=⟨by rw[<-hob];exact(D3.out.row.lt _ rfl).2,by rw[<-hob];exact(D2.out.row.lt _ rfl).2⟩
 clear hy5 b5 o5 hs hob D2 D3 X4
 have npp:¬(np=ob∨np=br):=by omega
 have nqq:¬(nq=ob∨nq=br):=by omega
 have j0:∀w',Tm (fun q=>q=ob∨q=br) y5 w'->w'.cell? (Va np 0)=some (Vs gp 8 cp):=fun w' h=>(World.cell?_of_block (a:=Va np 0) (h np DP.out.P.lt npp)).trans DP.out.P.cells.1
 have j1:∀w',Tm (fun q=>q=ob∨q=br) y5 w'->w'.cell? (Va np 1)=some (Vi zp):=fun w' h=>(World.cell?_of_block (a:=Va np 1) (h np DP.out.P.lt npp)).trans DP.out.P.cells.2.1
 have j2:∀w',Tm (fun q=>q=ob∨q=br) y5 w'->w'.cell? (Va np 2)=some (Vi qp):=fun w' h=>(World.cell?_of_block (a:=Va np 2) (h np DP.out.P.lt npp)).trans DP.out.P.cells.2.2
 have j3:∀w',Tm (fun q=>q=ob∨q=br) y5 w'->w'.cell? (Va nq 0)=some (Vs gq 8 cq):=fun w' h=>(World.cell?_of_block (a:=Va nq 0) (h nq DQ.out.P.lt nqq)).trans DQ.out.P.cells.1
 have j4:∀w',Tm (fun q=>q=ob∨q=br) y5 w'->w'.cell? (Va nq 1)=some (Vi zq):=fun w' h=>(World.cell?_of_block (a:=Va nq 1) (h nq DQ.out.P.lt nqq)).trans DQ.out.P.cells.2.1
 have j5:∀w',Tm (fun q=>q=ob∨q=br) y5 w'->w'.cell? (Va nq 2)=some (Vi qq):=fun w' h=>(World.cell?_of_block (a:=Va nq 2) (h nq DQ.out.P.lt nqq)).trans DQ.out.P.cells.2.2
 refine wp_region_held_drew (S:=fun w'=>Tm (fun q=>q=ob∨q=br) y5 w') (by kernel_rfl) (Tm.of (Below.refl _ _).drew) (fun _=>?_)
 refine AB 0 rfl ?_
 refine AB 1 rfl ?_
 refine AB 3 rfl ?_
 refine AB 5 rfl ?_
 refine AB 6 rfl ?_
 have hbd:Below y5.heap.size y5 y5.drew:=(Below.refl _ _).drew
 generalize y5.drew=t0 at hbd⊢
 have r1:=Ah DP.out.row hbd
 have r2:=Ah DQ.out.row hbd
 obtain⟨g3,c3,t1,hrun,o1,hg1,hg1'⟩:=Dn t0 w.heap.size ob 1 [s] (Ah O5.out hbd) _ g1 c1 xs1 r1 (by simp;omega) (by have:=hbd.size;omega)
 have T1:Tm (fun q=>q=ob∨q=br) y5 t1:=(Tm.of hbd).grown hbd.size hg1 (Or.inl (Or.inl rfl))
 have s1:=hg1.size
 have s0:=hbd.size
 have hg3:ob<=g3:=by omega
 refine wpAnyH_ready (rs:=[2]) (by kernel_rfl) (by simp) ?_
 refine BI (.tmp 63) (.tmp 64) rfl (by kernel_rfl) rfl rfl rfl hrun T1 (fun _=>?_)
 try simp only[Act.put,BP,BN,BK,BQ,BS,BM]
 have r2':=DI r2 hg1 (fun q hq e=>by
  have e1:g2=q:=Option.some.inj hq
  have e2:ob=q:=Option.some.inj e
  have:=G1.out.2
  omega)
 have F1:Fw p w t1:=(X5.out.below hbd).F.grown hg1 (fun q hq=>by have e2:ob=q:=Option.some.inj hq;omega)
 have K1:Bj t1 p ao n cap:=(X5.out.below hbd).K.grown hg1 (fun q hq=>by have e2:ob=q:=Option.some.inj hq;omega)
 obtain⟨g4,c4,t2,hrun2,o2,hg2,hg2'⟩:=Dn t1 w.heap.size g3 c3 ([s]++xs1) o1 _ g2 c2 xs2 r2' (by simp;omega) (by omega)
 have T2:Tm (fun q=>q=ob∨q=br) y5 t2:=T1.grown (by omega) hg2 (by show(g3=ob∨g3=br)∨_;omega)
 have s2:=hg2.size
 have hg3g:w.heap.size<=g3:=by omega
 refine wpAnyH_ready (rs:=[4]) (by kernel_rfl) (by simp) ?_
 refine BI (.tmp 65) (.tmp 66) rfl (by kernel_rfl) rfl rfl rfl hrun2 T2 (fun _=>?_)
 try simp only[Act.put,BP,BN,BK,BQ,BS,BM]
 have F2:Fw p w t2:=F1.grown hg2 (fun q hq=>by have e2:g3=q:=Option.some.inj hq;omega)
 have K2:Bj t2 p ao n cap:=K1.grown hg2 (fun q hq=>by have e2:g3=q:=Option.some.inj hq;omega)
 have AP:=DP.out.A.tm T2 (show¬(gp=ob∨gp=br)by omega) (by omega)
 have AQ:=DQ.out.A.tm T2 (show¬(gq=ob∨gq=br)by omega) (by omega)
 have RB:V3 t2 br 136 (.slice none 0 0) (Vi 0) (Vi 0):=by
  have q1:=BJ (X5.out.below hbd).R hg1 (by intro e;have e2:ob=br:=Option.some.inj e;omega)
  exact BJ q1 hg2 (by intro e;have e2:g3=br:=Option.some.inj e;omega)
 obtain⟨ys,hys⟩:=Ae ([s]++xs1++xs2)
 rw[hys]at o2⊢
 have HYS:=hxy hys
 have O2:=hxy o2
 have OKP:Hid (BA nH S 8 V0 8 Vp zp qp=true/\BA nH S 8 V0 8 Vq zq qq=true):=⟨DP.out.ok,DQ.out.ok⟩
 have TT2:=hxy T2
 clear hrun hrun2 o1 o2 hg1 hg2 r1 r2 r2' F1 K1 T1 T2 hbd hys j0 j1 j2 j3 j4 j5
 refine AO 7 rfl (fun KK hK=>?_)
 go_simp
 refine(JE nH S V0 gp cp Vp zp qp gq cq Vq zq qq t2 AP AQ OKP.out.1 OKP.out.2).mono ?_
 rintro e t3⟨g5,c5,V5,z5',c5',rfl,ng5,A5,ok5,hb⟩
 refine hK.out _ _ (TT2.out.below (by omega) hb) (fun _=>?_)
 clear hK KK
 try simp only[Act.put,BP,BN,BK,BQ,BS,BM]
 refine AB 8 rfl ?_
 have R3:=RB.below hb
 obtain⟨r0,r1,r2⟩:=R3.cells
 have rf:=R3.free
 have rl:=R3.lt
 have O3:=hxy (Ah O2.out hb)
 have hrn:(Vs g4 ys.length c4).ownBlock≠some br:=Am R3 O3.out (by decide)
 have RES:Hid (Fw p w t3/\Bj t3 p ao n cap/\A9 t3 g5 (8*6) (vF V5)/\BA nH S 8 V0 8 V5 z5' c5'=true/\g5≠br/\w.heap.size<=g5/\w.heap.size<=br/\p<br):=⟨F2.trans (.of_below hb),K2.below hb,A5,ok5,by omega,by omega,by have:=BO.out;omega,by have:=BO.out;omega⟩
 have T3:Hid (Tm (fun q=>q=ob∨q=br) y5 t3):=TT2.out.below (by omega) hb
 have WLY:Hid (Wl ys/\ys.length<=gb (d+1)):=(by
  rw[<-HYS.out]
  refine⟨?_,by simp;omega⟩
  have:=Wl.node (s:=s) (x:=xs1) (y:=xs2) (xs:=[]) (by rw[<-HS.out];show(2:Int)≠1;decide) (by rw[<-HS.out]) (by rw[<-HS.out]) WL1.out.1 WL2.out.1 .nil
  simpa using this:Wl ys/\ys.length<=gb (d+1))
 clear hb A5 ok5 R3 RB F2 K2 AP AQ O2 TT2 OKP X5 DP DQ
 refine AO 9 rfl (fun KK hK=>?_)
 go_simp
 refine hK.out _ _ (T3.out.set3 (Or.inr rfl) _ _ _) (fun _=>?_)
 clear hK KK
 refine wpAnyH_done (by kernel_rfl) ?_ _
 go_wp2_with fail
 refine bodyPost_ret (v:=.tuple #[Vs g4 ys.length c4,.agg #[Vs g5 8 c5,Vi z5',Vi c5']]) (by simp[results,Tryz.results99,go_sem, *]) rfl ⟨g4,c4,ys,g5,c5,V5,z5',c5',rfl,WLY.out.1,WLY.out.2,Dj O3.out hrn _ _ _,Or.inr RES.out.2.2.2.2.2.1,DY RES.out.2.2.1 RES.out.2.2.2.2.1 _ _ _,RES.out.2.2.2.1,Ef RES.out.1 RES.out.2.2.2.2.2.2.1 _ _ _,EC RES.out.2.1 RES.out.2.2.2.2.2.2.2 _ _ _⟩
end Go.Proofs.YtfpeecaaleijcaaGreatDoor
