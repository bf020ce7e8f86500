import Derived.Test.YtcjnmdgomocpgaaGreatDoorOfFu6c
set_option maxHeartbeats 16000000
set_option maxRecDepth 20000
namespace Go.Proofs.YtcjnmdgomocpgaaGreatDoor
open Go.RowKit Go.Deep
variable {c z:Int}{d:List SV}{F K L R Y e g n o p:Nat}{S:Nat->HS}{P:Nat->Prop}{O V:Nat->VV}{U:Option Addr}{D Q u v:World}
def fG(d:Nat):Prop:=∀(p:Nat)(ao:Option Addr)(n cap:Nat)(bH cH nH:Nat)(S:Nat->HS)(bR cR:Nat)(V0:Nat->VV)(bA cA:Nat)(V:Nat->VV)(z c:Int)(m:Nat)(busy:Int)(w:World),m<=30->CJ w p ao n cap->Ck w bH nH S bR 8 V0->Ak w bA (8*6) (vF V)->BK nH S 8 V0 8 V z c=true->bH≠p->bR≠p->bA≠p->
 Ks 49 #[Vq p,.agg #[Vs bH nH cH,Vs bR 8 cR],.agg #[Vs bA 8 cA,Vi z,Vi c],Vi (m:Int),Vi (d:Int),Vi busy] w (Xt nH S V0 bA (m*gb d) w p ao n cap)
structure DR(nH:Nat)(S:Nat->HS)(V0:Nat->VV)(bA:Nat)(u:World)(p:Nat)(ao:Option Addr)(n cap:Nat)(g cg:Nat)(xs:List SV)(np gA cA:Nat)(V:Nat->VV)(z c:Int)(v:World):Prop where
 F:Fw p u v
 K:CJ v p ao n cap
 row:v.ownsRow u.heap.size 117 11 (Vs g xs.length cg) xs.length (Es xs)
 P:V3 v np 31 (Vs gA 8 cA) (Vi z) (Vi c)
 nw:gA=bA∨u.heap.size<=gA
 ne:gA≠np
 A:Ak v gA (8*6) (vF V)
 ok:BK nH S 8 V0 8 V z c=true
 on:u.heap.size<=np
theorem DR.fw{cA:Nat}(h:DR o S O K u p U n Y g L d R e cA V z c v)(a:p<u.heap.size)(b:K≠p)(f:Fw p v D)(k:CJ D p U n Y):DR o S O K u p U n Y g L d R e cA V z c D:=by
 have:=h.on;have:=h.nw;exact⟨h.F.trans f,k,Eb h.row f a,Ct h.P f AB,h.nw,h.ne,f.arr h.A AB,h.ok,h.on⟩
theorem DR.below{bA:Nat}(h:DR o S O bA u p U n Y g L d R e F V z c v)(b:p<u.heap.size)(a:bA≠p)(f:Below v.heap.size v D):DR o S O bA u p U n Y g L d R e F V z c D:=h.fw b a (.of_below f) (h.K.below f)
theorem Vf{t:World}(h:Fw p u t)(b:v.ownsRow t.heap.size 117 11 (Vs g d.length L) d.length (Es d))(m:e=K∨t.heap.size<=e)(A:Ak v e (8*6) (vF V))(j:BK o S 8 O 8 V z c=true)(f:Fw p t v)(k:CJ v p U n Y):DR o S O K u p U n Y g L d v.heap.size e F V z c (v.alloc (.cells #[Vs e 8 F,Vi z,Vi c] 31)):=by
 have l:=h.size;have q:=f.size;have a:Bw v (v.alloc (.cells #[Vs e 8 F,Vi z,Vi c] 31)):=Ai;exact⟨(h.trans f).trans (.of_below a),k.below a,BM (ES b l) a,V3.new _ _ _ _ _,AB,by have:=A.lt;omega,A.below a A.lt,j,AB⟩
theorem Ky{x y q:Value}{t:World}(h:Fw p u t)(B:p<u.heap.size)(s:K<u.heap.size)(j:V3 t R 31 x y q)(on:u.heap.size<=R)(b:v.ownsRow t.heap.size 117 11 (Vs g d.length L) d.length (Es d))(D:e=K∨t.heap.size<=e)(A:Ak v e (8*6) (vF V))(m:BK o S 8 O 8 V z c=true)(f:Fw p t v)(k:CJ v p U n Y):DR o S O K u p U n Y g L d R e F V z c (((v.setCell (Va R 0) (Vs e 8 F)).setCell (Va R 1) (Vi z)).setCell (Va R 2) (Vi c)):=by
 have r:=h.size;have C:=j.lt;have a:e≠R:=AB;have l:V3 v R 31 x y q:=Ct j f AB;exact⟨GI (h.trans f) on _ _ _,Ez k AB _ _ _,ER (ES b r) (Ar l b Ad) _ _ _,l.set _ _ _,AB,a,EI A a _ _ _,m,on⟩
theorem fT:(Tryz.prog.info? 117).map (fun i=>(i.zero,i.size,i.bytes))=some (some (.agg #[Vi 0,Vi 0,Vi 0,Vi 0,Vi 0,Vi 0,Vi 0,Vi 0,Vi 0,Vi 0,Vi 0]),11,88):=AV
theorem nT(c:List SV):∀u∈Es c,u.oneCell'=true:=by
 intro u b;simp only[Es,List.mem_flatMap]at b;obtain⟨s,_,a⟩:=b;simp only[RJ,List.mem_cons,List.not_mem_nil,or_false]at a;rcases a with rfl|rfl|rfl|rfl|rfl|rfl|rfl|rfl|rfl|rfl|rfl<;>rfl
theorem XR{w:World}{B s:Nat}{v:Value}{d:List Value}(h:w.ownsRow B e s v n d)(j:v≠ .slice none 0 0):∃g c,v=Vs g n c:=by
 rcases h.2 with⟨h,k⟩|⟨g,a,b,h,_⟩
 ·exact absurd h j
 ·exact⟨_,_,h⟩
theorem Ju(w:World)(B g x:Nat)(b:List SV)(o:w.ownsRow B 117 11 (Vs g b.length x) b.length (Es b))(A m c:Nat)(a:List SV)(K:w.ownsRow A 117 11 (Vs m a.length c) a.length (Es a))(M:b.length+a.length<=1048576)(F:B<=w.heap.size):
 ∃d l k,(Builtin.append_ #[27,27] 27 #[Vs g b.length x,Vs m a.length c]).run Tryz.prog w=.ok (Vs d (b++a).length l) k/\k.ownsRow B 117 11 (Vs d (b++a).length l) (b++a).length (Es (b++a))/\w.grownBy k (some g)/\(d=g∨d=w.heap.size):=by
 obtain⟨J,C,n,p,q⟩:=info_parts fT;obtain⟨L,k,y,r,D,E,h⟩:=run_append_own_at (P:=Tryz.prog) w B 27 27 117 J _ 11 88 Tryz.underlying27 C n p q rfl Ad _ _ _ o ⟨m,0,none⟩ a.length c (Es a) (Xe a) (fun j u z=>by
  have s:j<a.length*11:=by
   have:=(List.getElem?_eq_some_iff.1 z).1;rw[Xe]at this;exact this
  rw[Addr.add_lit,Nat.zero_add,K.cellAt j s];exact z) (nT a) (by unfold maxLen;omega) AB F
 have I:L≠ .slice none 0 0:=fun e=>by
  have:=(E.1 e).1;simp at this
 obtain⟨d,l,rfl⟩:=XR r I;rw[<-List.length_append,<-qP]at r;rw[<-List.length_append]at y;refine⟨d,l,k,y,by simpa using r,D,?_⟩;rcases h with h|h
 ·exact Or.inl (Option.some.inj h)
 ·exact Or.inr (Option.some.inj h)
def Tm(P:Nat->Prop)(u u':World):Prop:=∀q,q<u.heap.size->¬P q->u'.heap[q]?=u.heap[q]?
theorem Tm.of(h:Below u.heap.size u Q):Tm P u Q:=fun q a _=>h.block q a
theorem Tm.below(h:Tm P u v)(d:u.heap.size<=v.heap.size)(b:Below v.heap.size v D):Tm P u D:=fun q c a=>(b.block q AB).trans (h q c a)
theorem Tm.grown(h:Tm P u v)(k:u.heap.size<=v.heap.size)(b:v.grownBy D (some g))(a:P g∨u.heap.size<=g):Tm P u D:=fun q j c=>(b.block q AB (fun e=>by
 have d:=(Option.some.inj e).symm;rcases a with a|a
 ·exact c (d▸a)
 ·omega)).trans (h q j c)
theorem Tm.set3{b:Nat}(h:Tm P u Q)(d:P b)(x y z:Value):Tm P u (((Q.setCell (Va b 0) x).setCell (Va b 1) y).setCell (Va b 2) z):=fun q j c=>by
 have a:q≠b:=fun e=>c (e▸d)
 rw[Below.heap_setCell _ ⟨b,2,none⟩ z q a,Below.heap_setCell _ ⟨b,1,none⟩ y q a,Below.heap_setCell _ ⟨b,0,none⟩ x q a];exact h q j c
theorem Ak.tm{b:Nat}{g:Nat->Value}(h:Ak u b n g)(f:Tm P u Q)(c:¬P b)(e:u.heap.size<=Q.heap.size):Ak Q b n g:=
 ⟨Ey h.lt e,fun i=>(World.frozen?_of_block (a:=Va b i) (f b h.lt c)).trans (h.free i),fun i d=>(World.cell?_of_block (a:=Va b i) (f b h.lt c)).trans (h.cell d)⟩
theorem Xj:∀{d e:Nat},d<=e->gb d<=gb e
 |d,0,h=>by rw[show d=0 by omega];exact BQ
 |d,e+1,h=>by
  by_cases q:d=e+1
  ·rw[q];exact BQ
  ·have:=Xj (d:=d) (e:=e) AB
   show gb d<=6+5*gb e;omega
theorem Xz{d:Nat}(h:d<=3):gb d<=1000:=Nat.le_trans (Xj h) Ad
theorem Ul(d:Nat)(IH:fG d)(hd:d<=3)(p:Nat)(C:Option Addr)(n b:Nat)(bH cH X:Nat)(S:Nat->HS)(bR cR:Nat)(V0:Nat->VV)(Y cA:Nat)(V:Nat->VV)(z c ay:Int)(w:World)(hc:CJ w p C n b)(h1:Ck w bH X S bR 8 V0)(h2:Ak w Y (8*6) (vF V))(h3:BK X S 8 V0 8 V z c=true)(p1:bH≠p)(p2:bR≠p)(p3:Y≠p):
 Ks 85 #[Vq p,.agg #[Vs bH X cH,Vs bR 8 cR],.agg #[Vs Y 8 cA,Vi z,Vi c],Vi ((d+1:Nat):Int),Vi ay] w (Xt X S V0 Y (gb (d+1)) w p C n b):=by
 have X0:Hid (Ga w p C n b bH cH X S bR cR V0 Y cA V z c w.heap.size (w.heap.size+1) (w.heap.size+1+1) (((w.alloc (.cells #[Vs bH X cH,Vs bR 8 cR] 26)).alloc (.cells #[Vs Y 8 cA,Vi z,Vi c] 31)).alloc (.cells #[.slice none 0 0,Vi 0,Vi 0] 31))):=Rx w hc h1 h2 h3 p1 p2 p3;have LA:=hxy h2.lt;have lp:=hc.lt;clear hc h1 h2 h3 p1 p2;go_enter Tryz.func85,Tryz.ntmps85;go_upto_region 1 with fail;obtain⟨u,hu⟩:=Au (((w.alloc (.cells #[Vs bH X cH,Vs bR 8 cR] 26)).alloc (.cells #[Vs Y 8 cA,Vi z,Vi c] 31)).alloc (.cells #[.slice none 0 0,Vi 0,Vi 0] 31));rw[hu]at X0⊢;obtain⟨bs,aw⟩:=Au w.heap.size;obtain⟨ba,aK⟩:=Au (w.heap.size+1);obtain⟨Q,aM⟩:=Au (w.heap.size+1+1);have X0:Hid (Ga w p C n b bH cH X S bR cR V0 Y cA V z c bs ba Q u):=by rw[<-aw,<-aK,<-aM];exact X0
 rw[aM,aK,aw];have BO:Hid (w.heap.size=bs/\bs<ba/\ba<Q):=⟨aw,AB,AB⟩
 clear hu aw aK aM;go_wp2_with fail;refine(Af p C n b 4 _ AB X0.K).mono ?_;rintro e y1⟨cd,rfl,bI,bJ,f,L⟩;have X1:=hxy (X0.fw f L);clear f L X0;obtain⟨_,⟨a0,a1,a2⟩,aH,aI⟩:=X1.cells;go_wp2_with fail;refine(TG _ _ _ _ _ _ _).mono ?_;rintro e y2⟨⟨fr,rfl⟩,hb⟩;have X2:=hxy (X1.below hb);clear hb X1 a0 a1 a2 aH aI;by_cases hf:fr=0
 rotate_left
 ·obtain⟨⟨s0,s1⟩,⟨a0,a1,a2⟩,aH,aI⟩:=X2.cells
  go_wp2_with fail;refine(Gs p C n b bH cH X S bR cR V0 Y cA V z c ay y2 X2.K X2.sc X2.G X2.ok X2.p1 X2.p2 X2.p3).mono ?_;rintro e y3⟨g,cg,O,U,r,V',z',Z,rfl,ab,B,o,M,hA,N,f,L⟩;have X3:=hxy (X2.fw f L);have bk:=X2.F.size;have bu:=X2.R.lt
  have a3:U≠Q:=by rcases M with h|h;·rw[h];exact X2.n3
                  ·omega
  have HR:=hxy (ES o bk);have aa:Hid (Wl O/\O.length<=gb (d+1)/\(U=Y∨w.heap.size<=U)/\Ak y3 U (8*6) (vF V')/\BK X S 8 V0 8 V' z' Z=true):=⟨ab,by have:=PO (d+1);omega,AB,hA,N⟩
  obtain⟨r0,r1,r2⟩:=X3.R.cells;have rf:=X3.R.free;have rl:=X3.R.lt;have aN:(Vs g O.length cg).ownBlock≠some Q:=Ar X3.R HR Ad;clear f L ab B o M hA N s0 s1 a0 a1 a2 aH aI X2;go_wp2_with fail;refine mY (.tuple #[Vs g O.length cg,.agg #[Vs U 8 r,Vi z',Vi Z]]) (by simp[results,Tryz.results85,go_sem, *]) ⟨g,cg,O,U,r,V',z',Z,rfl,aa.1,aa.2.1,ER HR aN _ _ _,aa.2.2.1,EI aa.2.2.2.1 a3 _ _ _,aa.2.2.2.2,GI X3.F (by have:=BO.out;omega) _ _ _,Ez X3.K (by have:=BO.out;omega) _ _ _⟩
 subst hf;go_upto_region 4 with fail;go_cut [13,14](fun bm bo wx=>∃(g cg:Nat)(O:List SV)(J U r:Nat)(V':Nat->VV)(z' Z:Int),bm=Vs g O.length cg/\bo=Vq J/\Wl O/\O.length<=3*gb d/\DR X S V0 Y y2 p C n b g cg O J U r V' z' Z wx)
 case first=>
  have SS:∀k,Fw p y2 k/\CJ k p C n b->Ga w p C n b bH cH X S bR cR V0 Y cA V z c bs ba Q k:=fun k h=>X2.fw h.1 h.2
  have j0:∀k,Fw p y2 k/\CJ k p C n b->k.cell? (Va bs 0)=some (Vs bH X cH):=fun k h=>(SS k h).cells.1.1
  have j1:∀k,Fw p y2 k/\CJ k p C n b->k.cell? (Va bs 1)=some (Vs bR 8 cR):=fun k h=>(SS k h).cells.1.2
  have j2:∀k,Fw p y2 k/\CJ k p C n b->k.cell? (Va ba 0)=some (Vs Y 8 cA):=fun k h=>(SS k h).cells.2.1.1
  have j3:∀k,Fw p y2 k/\CJ k p C n b->k.cell? (Va ba 1)=some (Vi z):=fun k h=>(SS k h).cells.2.1.2.1
  have j4:∀k,Fw p y2 k/\CJ k p C n b->k.cell? (Va ba 2)=some (Vi c):=fun k h=>(SS k h).cells.2.1.2.2
  have bl:IntKind.i64.wrap (d:Int)=(d:Int):=by rw[IntKind.wrap_i64]<;>omega
  have ai:=hxy SS;have ar:p<y2.heap.size:=by have:=X2.F.size;omega
  have an:Y<y2.heap.size:=by have:=X2.G.lt;omega
  clear SS;refine wp_region_held_drew (S:=fun k=>Fw p y2 k/\CJ k p C n b) AV ⟨.of_below BJ.drew,X2.K.below BJ.drew⟩ (fun hH=>?_);refine EX [0,1,2,3,5,6,7] ?_;generalize y2.drew=t0 at hH⊢;have m:=hH;clear hH;refine wpAnyH_ready (rs:=[4,12]) AV AX ?_;refine AllReadyH.cons rfl (fun D l=>?_) (AllReadyH.cons rfl (fun D l=>?_) AllReadyH.nil)
  ·skip
   go_simp;refine(Af p C n b 4 _ AB m.2).mono ?_;rintro e t1⟨md,rfl,GQ,aP,f,L⟩;have j:Fw p y2 t1/\CJ t1 p C n b:=⟨m.1.trans f,L⟩
   obtain⟨mn,ak⟩:∃mn:Nat,md=(mn:Int):=⟨md.toNat,AB⟩
   subst ak;refine l.out _ _ j (fun _=>?_);clear l D m f L;have m:=j;clear j;refine Cn ?_;refine wpAnyH_ready (rs:=[8,12]) AV AX ?_;refine AllReadyH.cons rfl (fun D l=>?_) (AllReadyH.cons rfl (fun D l=>?_) AllReadyH.nil)
   ·skip
    go_simp;have E:=ai.out _ m;refine(IH p C n b bH cH X S bR cR V0 Y cA V z c mn _ _ AB m.2 E.sc E.G E.ok E.p1 E.p2 E.p3).mono ?_;rintro e t2⟨g,cg,O,U,r,V',z',Z,rfl,ab,B,o,M,hA,N,f,L⟩;have j:Fw p y2 t2/\CJ t2 p C n b:=⟨m.1.trans f,L⟩
    refine l.out _ _ j (fun _=>?_);clear l D;refine Cn ?_;refine EX [9,10,11] ?_;have I:O.length<=3*gb d:=Nat.le_trans B (Nat.mul_le_mul_right _ AB);have DD:Hid (DR X S V0 Y y2 p C n b g cg O t2.heap.size U r V' z' Z (t2.alloc (.cells #[Vs U 8 r,Vi z',Vi Z] 31))):=Vf m.1 o M hA N f L;clear E B o M hA N f L m j0 j1 j2 j3 j4;refine AO 12 rfl (fun D l=>?_);go_simp;refine l.out _ _ ⟨j.1.trans (.of_below Ai),j.2.below Ai⟩ (fun _=>?_);clear l D;refine Cn ?_;refine AU 13 ?_;refine AO 14 rfl (fun D l=>?_);go_simp;refine l.out _ _ ⟨DD.F,DD.K⟩ (fun _=>?_);clear l D j;refine wpAnyH_done AV ?_ _;go_wp2_with fail;go_meet;exact⟨g,cg,O,_,U,r,V',z',Z,rfl,rfl,ab,I,DD⟩
   ·skip
    go_simp;obtain⟨t4,a8,bn⟩:∃y,t1.alloc (.cells #[.slice none 0 0,Vi 0,Vi 0] 31)=y/\Bw t1 y:=⟨_,rfl,Ai⟩
    have nz:=V3.new t1 31 (.slice none 0 0) (Vi 0) (Vi 0);rw[a8]at nz⊢;have j:Fw p y2 t4/\CJ t4 p C n b:=⟨m.1.trans (.of_below bn),m.2.below bn⟩
    have ae:=m.1.size;obtain⟨J,ad⟩:=Au t1.heap.size;rw[ad]at nz ae⊢;refine l.out _ _ j (fun _=>?_);clear l D m a8 bn ad;have m:=j;clear j;refine Cn ?_;refine AO 8 rfl (fun D l=>?_);go_simp;have E:=ai.out _ m;refine(IH p C n b bH cH X S bR cR V0 Y cA V z c mn _ _ AB m.2 E.sc E.G E.ok E.p1 E.p2 E.p3).mono ?_;rintro e t5⟨g,cg,O,U,r,V',z',Z,rfl,ab,B,o,M,hA,N,f,L⟩;have j:Fw p y2 t5/\CJ t5 p C n b:=⟨m.1.trans f,L⟩
    refine l.out _ _ j (fun _=>?_);clear l D;refine Cn ?_;refine EX [9,10,11,13] ?_;have I:O.length<=3*gb d:=Nat.le_trans B (Nat.mul_le_mul_right _ AB);have DD:Hid (DR X S V0 Y y2 p C n b g cg O J U r V' z' Z (((t5.setCell (Va J 0) (Vs U 8 r)).setCell (Va J 1) (Vi z')).setCell (Va J 2) (Vi Z))):=Ky m.1 ar an nz ae o M hA N f L;have nv:=Ct nz f AB;obtain⟨e0,e1,e2⟩:=V3.cells nv;have ef:=V3.free nv;have el:=V3.lt nv;clear nv nz E B o M hA N f L m j0 j1 j2 j3 j4;refine AO 14 rfl (fun D l=>?_);go_simp;refine l.out _ _ ⟨DD.F,DD.K⟩ (fun _=>?_);clear l D j;refine wpAnyH_done AV ?_ _;go_wp2_with fail;go_meet;exact⟨g,cg,O,_,U,r,V',z',Z,rfl,rfl,ab,I,DD⟩
  ·skip
   go_simp;obtain⟨t7,a9,bn⟩:∃y,t0.alloc (.cells #[.slice none 0 0,Vi 0,Vi 0] 31)=y/\Bw t0 y:=⟨_,rfl,Ai⟩
   have nz:=V3.new t0 31 (.slice none 0 0) (Vi 0) (Vi 0);rw[a9]at nz⊢;have j:Fw p y2 t7/\CJ t7 p C n b:=⟨m.1.trans (.of_below bn),m.2.below bn⟩
   have ae:=m.1.size;obtain⟨J,ad⟩:=Au t0.heap.size;rw[ad]at nz ae⊢;refine l.out _ _ j (fun _=>?_);clear l D m a9 bn ad;have m:=j;clear j;refine Cn ?_;refine AO 4 rfl (fun D l=>?_);go_simp;refine(Af p C n b 4 _ AB m.2).mono ?_;rintro e t8⟨md,rfl,GQ,aP,f,L⟩;have j:Fw p y2 t8/\CJ t8 p C n b:=⟨m.1.trans f,L⟩
   have av:V3 t8 J 31 (.slice none 0 0) (Vi 0) (Vi 0):=Ct nz f AB;obtain⟨mn,ak⟩:∃mn:Nat,md=(mn:Int):=⟨md.toNat,AB⟩
   subst ak;refine l.out _ _ j (fun _=>?_);clear l D m f L nz;have m:=j;clear j;refine Cn ?_;have nz:=av;clear av;refine AO 8 rfl (fun D l=>?_);go_simp;have E:=ai.out _ m;refine(IH p C n b bH cH X S bR cR V0 Y cA V z c mn _ _ AB m.2 E.sc E.G E.ok E.p1 E.p2 E.p3).mono ?_;rintro e t9⟨g,cg,O,U,r,V',z',Z,rfl,ab,B,o,M,hA,N,f,L⟩;have j:Fw p y2 t9/\CJ t9 p C n b:=⟨m.1.trans f,L⟩
   refine l.out _ _ j (fun _=>?_);clear l D;refine Cn ?_;refine EX [9,10,11,13] ?_;have I:O.length<=3*gb d:=Nat.le_trans B (Nat.mul_le_mul_right _ AB);have DD:Hid (DR X S V0 Y y2 p C n b g cg O J U r V' z' Z (((t9.setCell (Va J 0) (Vs U 8 r)).setCell (Va J 1) (Vi z')).setCell (Va J 2) (Vi Z))):=Ky m.1 ar an nz ae o M hA N f L;have nv:=Ct nz f AB;obtain⟨e0,e1,e2⟩:=V3.cells nv;have ef:=V3.free nv;have el:=V3.lt nv;clear nv nz E B o M hA N f L m j0 j1 j2 j3 j4;refine AO 14 rfl (fun D l=>?_);go_simp;refine l.out _ _ ⟨DD.F,DD.K⟩ (fun _=>?_);clear l D j;refine wpAnyH_done AV ?_ _;go_wp2_with fail;go_meet;exact⟨g,cg,O,_,U,r,V',z',Z,rfl,rfl,ab,I,DD⟩
 case rest=>
 obtain⟨g1,c1,af,J,gp,cp,Vp,zp,qp,rfl,rfl,bh,aC,d1⟩:=hcut;have D1:=hxy d1;have X3:=hxy (X2.fw d1.F d1.K);have aW:Hid (Wl af/\af.length<=3*gb d):=⟨bh,aC⟩
 have ah:Hid (p<y2.heap.size/\Q<y2.heap.size/\w.heap.size<=y2.heap.size/\Y<y2.heap.size):=⟨by have:=X2.F.size;omega,X2.R.lt,X2.F.size,X2.G.lt⟩
 clear d1 bh aC X2;generalize wc=y3 at D1 X3⊢;go_upto_region 5 with fail;go_cut [15,16](fun bp bq wx=>∃(g cg:Nat)(O:List SV)(J U r:Nat)(V':Nat->VV)(z' Z:Int),bp=Vs g O.length cg/\bq=Vq J/\Wl O/\O.length<=2*gb d/\DR X S V0 Y y3 p C n b g cg O J U r V' z' Z wx)
 case first=>
  have SS:∀k,Fw p y3 k/\CJ k p C n b->Ga w p C n b bH cH X S bR cR V0 Y cA V z c bs ba Q k:=fun k h=>X3.fw h.1 h.2
  have j0:∀k,Fw p y3 k/\CJ k p C n b->k.cell? (Va bs 0)=some (Vs bH X cH):=fun k h=>(SS k h).cells.1.1
  have j1:∀k,Fw p y3 k/\CJ k p C n b->k.cell? (Va bs 1)=some (Vs bR 8 cR):=fun k h=>(SS k h).cells.1.2
  have j2:∀k,Fw p y3 k/\CJ k p C n b->k.cell? (Va ba 0)=some (Vs Y 8 cA):=fun k h=>(SS k h).cells.2.1.1
  have j3:∀k,Fw p y3 k/\CJ k p C n b->k.cell? (Va ba 1)=some (Vi z):=fun k h=>(SS k h).cells.2.1.2.1
  have j4:∀k,Fw p y3 k/\CJ k p C n b->k.cell? (Va ba 2)=some (Vi c):=fun k h=>(SS k h).cells.2.1.2.2
  have bl:IntKind.i64.wrap (d:Int)=(d:Int):=by rw[IntKind.wrap_i64]<;>omega
  have ai:=hxy SS;have ar:p<y3.heap.size:=by have:=X3.F.size;omega
  have an:Y<y3.heap.size:=by have:=X3.G.lt;omega
  clear SS;refine wp_region_held_drew (S:=fun k=>Fw p y3 k/\CJ k p C n b) AV ⟨.of_below BJ.drew,X3.K.below BJ.drew⟩ (fun hH=>?_);refine EX [0,1,2,3,5,6,7] ?_;generalize y3.drew=t0 at hH⊢;have m:=hH;clear hH;refine wpAnyH_ready (rs:=[4,12]) AV AX ?_;refine AllReadyH.cons rfl (fun D l=>?_) (AllReadyH.cons rfl (fun D l=>?_) AllReadyH.nil)
  ·skip
   go_simp;refine(Af p C n b 3 _ AB m.2).mono ?_;rintro e am⟨md,rfl,GQ,aP,f,L⟩;have j:Fw p y3 am/\CJ am p C n b:=⟨m.1.trans f,L⟩
   obtain⟨mn,ak⟩:∃mn:Nat,md=(mn:Int):=⟨md.toNat,AB⟩
   subst ak;refine l.out _ _ j (fun _=>?_);clear l D m f L;have m:=j;clear j;refine Cn ?_;refine wpAnyH_ready (rs:=[8,12]) AV AX ?_;refine AllReadyH.cons rfl (fun D l=>?_) (AllReadyH.cons rfl (fun D l=>?_) AllReadyH.nil)
   ·skip
    go_simp;have E:=ai.out _ m;refine(IH p C n b bH cH X S bR cR V0 Y cA V z c mn _ _ AB m.2 E.sc E.G E.ok E.p1 E.p2 E.p3).mono ?_;rintro e ax⟨g,cg,O,U,r,V',z',Z,rfl,ab,B,o,M,hA,N,f,L⟩;have j:Fw p y3 ax/\CJ ax p C n b:=⟨m.1.trans f,L⟩
    refine l.out _ _ j (fun _=>?_);clear l D;refine Cn ?_
    refine EX [9,10,11] ?_
    have I:O.length<=2*gb d:=Nat.le_trans B (Nat.mul_le_mul_right _ AB)
    have DD:Hid (DR X S V0 Y y3 p C n b g cg O ax.heap.size U r V' z' Z (ax.alloc (.cells #[Vs U 8 r,Vi z',Vi Z] 31))):=Vf m.1 o M hA N f L
    clear E B o M hA N f L m j0 j1 j2 j3 j4
    refine AO 12 rfl (fun D l=>?_)
    go_simp
    refine l.out _ _ ⟨j.1.trans (.of_below Ai),j.2.below Ai⟩ (fun _=>?_)
    clear l D
    refine Cn ?_
    refine AU 13 ?_
    refine AO 14 rfl (fun D l=>?_)
    go_simp
    refine l.out _ _ ⟨DD.F,DD.K⟩ (fun _=>?_)
    clear l D j
    refine wpAnyH_done AV ?_ _
    go_wp2_with fail
    go_meet
    exact⟨g,cg,O,_,U,r,V',z',Z,rfl,rfl,ab,I,DD⟩
   ·skip
    go_simp
    obtain⟨bf,aA,bn⟩:∃y,am.alloc (.cells #[.slice none 0 0,Vi 0,Vi 0] 31)=y/\Bw am y:=⟨_,rfl,Ai⟩
    have nz:=V3.new am 31 (.slice none 0 0) (Vi 0) (Vi 0)
    rw[aA]at nz⊢
    have j:Fw p y3 bf/\CJ bf p C n b:=⟨m.1.trans (.of_below bn),m.2.below bn⟩
    have ae:=m.1.size
    obtain⟨J,ad⟩:=Au am.heap.size
    rw[ad]at nz ae⊢
    refine l.out _ _ j (fun _=>?_)
    clear l D m aA bn ad
    have m:=j
    clear j
    refine Cn ?_
    refine AO 8 rfl (fun D l=>?_)
    go_simp
    have E:=ai.out _ m
    refine(IH p C n b bH cH X S bR cR V0 Y cA V z c mn _ _ AB m.2 E.sc E.G E.ok E.p1 E.p2 E.p3).mono ?_
    rintro e aS⟨g,cg,O,U,r,V',z',Z,rfl,ab,B,o,M,hA,N,f,L⟩
    have j:Fw p y3 aS/\CJ aS p C n b:=⟨m.1.trans f,L⟩
    refine l.out _ _ j (fun _=>?_)
    clear l D
    refine Cn ?_
    refine EX [9,10,11,13] ?_
    have I:O.length<=2*gb d:=Nat.le_trans B (Nat.mul_le_mul_right _ AB)
    have DD:Hid (DR X S V0 Y y3 p C n b g cg O J U r V' z' Z (((aS.setCell (Va J 0) (Vs U 8 r)).setCell (Va J 1) (Vi z')).setCell (Va J 2) (Vi Z))):=Ky m.1 ar an nz ae o M hA N f L
    have nv:=Ct nz f AB
    obtain⟨e0,e1,e2⟩:=V3.cells nv
    have ef:=V3.free nv
    have el:=V3.lt nv
    clear nv nz E B o M hA N f L m j0 j1 j2 j3 j4
    refine AO 14 rfl (fun D l=>?_)
    go_simp
    refine l.out _ _ ⟨DD.F,DD.K⟩ (fun _=>?_)
    clear l D j
    refine wpAnyH_done AV ?_ _
    go_wp2_with fail
    go_meet
    exact⟨g,cg,O,_,U,r,V',z',Z,rfl,rfl,ab,I,DD⟩
  ·skip
   go_simp
   obtain⟨bg,aB,bn⟩:∃y,t0.alloc (.cells #[.slice none 0 0,Vi 0,Vi 0] 31)=y/\Bw t0 y:=⟨_,rfl,Ai⟩
   have nz:=V3.new t0 31 (.slice none 0 0) (Vi 0) (Vi 0)
   rw[aB]at nz⊢
   have j:Fw p y3 bg/\CJ bg p C n b:=⟨m.1.trans (.of_below bn),m.2.below bn⟩
   have ae:=m.1.size
   obtain⟨J,ad⟩:=Au t0.heap.size
   rw[ad]at nz ae⊢
   refine l.out _ _ j (fun _=>?_)
   clear l D m aB bn ad
   have m:=j
   clear j
   refine Cn ?_
   refine AO 4 rfl (fun D l=>?_)
   go_simp
   refine(Af p C n b 3 _ AB m.2).mono ?_
   rintro e aT⟨md,rfl,GQ,aP,f,L⟩
   have j:Fw p y3 aT/\CJ aT p C n b:=⟨m.1.trans f,L⟩
   have av:V3 aT J 31 (.slice none 0 0) (Vi 0) (Vi 0):=Ct nz f AB
   obtain⟨mn,ak⟩:∃mn:Nat,md=(mn:Int):=⟨md.toNat,AB⟩
   subst ak
   refine l.out _ _ j (fun _=>?_)
   clear l D m f L nz
   have m:=j
   clear j
   refine Cn ?_
   have nz:=av
   clear av
   refine AO 8 rfl (fun D l=>?_)
   go_simp
   have E:=ai.out _ m
   refine(IH p C n b bH cH X S bR cR V0 Y cA V z c mn _ _ AB m.2 E.sc E.G E.ok E.p1 E.p2 E.p3).mono ?_
   rintro e aU⟨g,cg,O,U,r,V',z',Z,rfl,ab,B,o,M,hA,N,f,L⟩
   have j:Fw p y3 aU/\CJ aU p C n b:=⟨m.1.trans f,L⟩
   refine l.out _ _ j (fun _=>?_)
   clear l D
   refine Cn ?_
   refine EX [9,10,11,13] ?_
   have I:O.length<=2*gb d:=Nat.le_trans B (Nat.mul_le_mul_right _ AB)
   have DD:Hid (DR X S V0 Y y3 p C n b g cg O J U r V' z' Z (((aU.setCell (Va J 0) (Vs U 8 r)).setCell (Va J 1) (Vi z')).setCell (Va J 2) (Vi Z))):=Ky m.1 ar an nz ae o M hA N f L
   have nv:=Ct nz f AB
   obtain⟨e0,e1,e2⟩:=V3.cells nv
   have ef:=V3.free nv
   have el:=V3.lt nv
   clear nv nz E B o M hA N f L m j0 j1 j2 j3 j4
   refine AO 14 rfl (fun D l=>?_)
   go_simp
   refine l.out _ _ ⟨DD.F,DD.K⟩ (fun _=>?_)
   clear l D j
   refine wpAnyH_done AV ?_ _
   go_wp2_with fail
   go_meet
   exact⟨g,cg,O,_,U,r,V',z',Z,rfl,rfl,ab,I,DD⟩
 case rest=>
 obtain⟨g2,c2,ag,nq,gq,cq,Vq,zq,qq,rfl,rfl,bi,aD,d2⟩:=hcut
 have D2:=hxy d2
 have D3:=hxy (D1.fw ah.1 p3 d2.F d2.K)
 have X4:=hxy (X3.fw d2.F d2.K)
 have aX:Hid (Wl ag/\ag.length<=2*gb d):=⟨bi,aD⟩
 have aE:=hxy D1.F.size
 have bE:J<y3.heap.size:=D1.P.lt
 clear d2 bi aD X3 D1
 generalize wc=y4 at D2 D3 X4⊢
 have bL:gb d<=1000:=Xz hd
 have bN:af.length<=3*gb d:=aW.2
 have bO:ag.length<=2*gb d:=aX.2
 have bM:gb (d+1)=6+5*gb d:=rfl
 go_upto_region 7 with fail
 obtain⟨s,hs⟩:∃s:SV,(⟨2,0,0,0,0,0,0,1+cd,(af.length:Int),(ag.length:Int),0⟩:SV)=s:=⟨_,rfl⟩
 obtain⟨y5,bc,b5,o5⟩:∃y,y4.alloc (.cells #[Vi 2,Vi 0,Vi 0,Vi 0,Vi 0,Vi 0,Vi 0,Vi (1+cd),Vi (af.length:Int),Vi (ag.length:Int),Vi 0] 117)=y/\Bw y4 y/\y.ownsRow y4.heap.size 117 11 (Vs y4.heap.size 1 1) 1 (Es [s]):=⟨_,rfl,Ai,by rw[Nj,<-hs];exact World.ownsRow_lit y4 (RJ ⟨2,0,0,0,0,0,0,1+cd,(af.length:Int),(ag.length:Int),0⟩).toArray 1 BQ (by unfold maxLen;omega) rfl⟩
 rw[bc]
 have HS:=hxy hs
 have bb:w.heap.size<=y4.heap.size:=X4.F.size
 have aZ:Q<y4.heap.size:=X4.R.lt
 have a6:J<y4.heap.size:=D3.P.lt
 have a7:nq<y4.heap.size:=D2.P.lt
 have a4:gp<y4.heap.size:=D3.A.lt
 have a5:gq<y4.heap.size:=D2.A.lt
 have bP:=D3.on
 have bQ:=D2.on
 have bC:gp≠Q:=by have:=D3.nw;have:=X4.n3;have:=ah.out;omega
 have bD:gq≠Q:=by have:=D2.nw;have:=X4.n3;have:=ah.out;have:=aE.out;omega
 have bF:J≠Q:=by have:=ah.out;omega
 have bG:nq≠Q:=by have:=ah.out;have:=aE.out;omega
 obtain⟨ob,ap⟩:=Au y4.heap.size
 have O5:Hid (y5.ownsRow w.heap.size 117 11 (.slice (some ⟨ob,0,none⟩) [s].length 1) [s].length (Es [s])):=(by rw[<-ap];exact ES o5 bb:y5.ownsRow w.heap.size 117 11 (.slice (some ⟨ob,0,none⟩) [s].length 1) [s].length (Es [s]))
 have z5:y4.heap.size<y5.heap.size:=(o5.lt _ rfl).2
 rw[ap]at bb aZ a6 a7 a4 a5 z5⊢
 have X5:=hxy (X4.below b5)
 have DP:=hxy (D3.below ah.1 p3 b5)
 have DQ:Hid (DR X S V0 Y y3 p C n b g2 c2 ag nq gq cq Vq zq qq y5):=D2.below (by have:=ah.1;have:=aE.out;omega) p3 b5
 have G1:Hid (g1<ob/\g2<ob):=⟨by rw[<-ap];exact(D3.row.lt _ rfl).2,by rw[<-ap];exact(D2.row.lt _ rfl).2⟩
 clear bc b5 o5 hs ap D2 D3 X4
 have aQ:¬(J=ob∨J=Q):=AB
 have aR:¬(nq=ob∨nq=Q):=AB
 have j0:∀k,Tm (fun q=>q=ob∨q=Q) y5 k->k.cell? (Va J 0)=some (Vs gp 8 cp):=fun k h=>(World.cell?_of_block (a:=Va J 0) (h J DP.P.lt aQ)).trans DP.P.cells.1
 have j1:∀k,Tm (fun q=>q=ob∨q=Q) y5 k->k.cell? (Va J 1)=some (Vi zp):=fun k h=>(World.cell?_of_block (a:=Va J 1) (h J DP.P.lt aQ)).trans DP.P.cells.2.1
 have j2:∀k,Tm (fun q=>q=ob∨q=Q) y5 k->k.cell? (Va J 2)=some (Vi qp):=fun k h=>(World.cell?_of_block (a:=Va J 2) (h J DP.P.lt aQ)).trans DP.P.cells.2.2
 have j3:∀k,Tm (fun q=>q=ob∨q=Q) y5 k->k.cell? (Va nq 0)=some (Vs gq 8 cq):=fun k h=>(World.cell?_of_block (a:=Va nq 0) (h nq DQ.P.lt aR)).trans DQ.P.cells.1
 have j4:∀k,Tm (fun q=>q=ob∨q=Q) y5 k->k.cell? (Va nq 1)=some (Vi zq):=fun k h=>(World.cell?_of_block (a:=Va nq 1) (h nq DQ.P.lt aR)).trans DQ.P.cells.2.1
 have j5:∀k,Tm (fun q=>q=ob∨q=Q) y5 k->k.cell? (Va nq 2)=some (Vi qq):=fun k h=>(World.cell?_of_block (a:=Va nq 2) (h nq DQ.P.lt aR)).trans DQ.P.cells.2.2
 refine wp_region_held_drew (S:=fun k=>Tm (fun q=>q=ob∨q=Q) y5 k) AV (Tm.of BJ.drew) (fun _=>?_)
 refine EX [0,1,3,5,6] ?_
 have ac:Bw y5 y5.drew:=BJ.drew
 generalize y5.drew=t0 at ac⊢
 have r1:=BM DP.row ac
 have r2:=BM DQ.row ac
 obtain⟨g3,c3,t1,az,o1,aj,bv⟩:=Ju t0 w.heap.size ob 1 [s] (BM O5 ac) _ g1 c1 af r1 (by simp;omega) (by have:=ac.size;omega)
 have T1:Tm (fun q=>q=ob∨q=Q) y5 t1:=(Tm.of ac).grown ac.size aj (Or.inl (Or.inl rfl))
 have s1:=aj.size
 have s0:=ac.size
 have bK:ob<=g3:=AB
 refine wpAnyH_ready (rs:=[2]) AV AX ?_
 refine Ka (.tmp 63) (.tmp 64) rfl AV rfl rfl rfl az T1 (fun _=>?_)
 refine Cn ?_
 have be:=Lu r2 aj (fun q hq e=>by
  have e1:g2=q:=Option.some.inj hq
  have e2:ob=q:=Option.some.inj e
  have:=G1.2
  omega)
 have F1:Fw p w t1:=(X5.below ac).F.grown aj (fun q hq=>by have e2:ob=q:=Option.some.inj hq;omega)
 have K1:CJ t1 p C n b:=(X5.below ac).K.grown aj (fun q hq=>by have e2:ob=q:=Option.some.inj hq;omega)
 obtain⟨g4,c4,t2,au,o2,al,bw⟩:=Ju t1 w.heap.size g3 c3 ([s]++af) o1 _ g2 c2 ag be (by simp;omega) AB
 have T2:Tm (fun q=>q=ob∨q=Q) y5 t2:=T1.grown AB al (by show(g3=ob∨g3=Q)∨_;omega)
 have s2:=al.size
 have bB:w.heap.size<=g3:=AB
 refine wpAnyH_ready (rs:=[4]) AV AX ?_
 refine Ka (.tmp 65) (.tmp 66) rfl AV rfl rfl rfl au T2 (fun _=>?_)
 refine Cn ?_
 have F2:Fw p w t2:=F1.grown al (fun q hq=>by have e2:g3=q:=Option.some.inj hq;omega)
 have K2:CJ t2 p C n b:=K1.grown al (fun q hq=>by have e2:g3=q:=Option.some.inj hq;omega)
 have AP:=DP.A.tm T2 (show¬(gp=ob∨gp=Q)by omega) AB
 have AQ:=DQ.A.tm T2 (show¬(gq=ob∨gq=Q)by omega) AB
 have RB:V3 t2 Q 31 (.slice none 0 0) (Vi 0) (Vi 0):=by
  have q1:=Be (X5.below ac).R aj (by intro e;have e2:ob=Q:=Option.some.inj e;omega)
  exact Be q1 al (by intro e;have e2:g3=Q:=Option.some.inj e;omega)
 obtain⟨ys,aO⟩:=Au ([s]++af++ag)
 rw[aO]at o2⊢
 have bj:=hxy aO
 have O2:=hxy o2
 have aF:Hid (BK X S 8 V0 8 Vp zp qp=true/\BK X S 8 V0 8 Vq zq qq=true):=⟨DP.ok,DQ.ok⟩
 have aG:=hxy T2
 clear az au o1 o2 aj al r1 r2 be F1 K1 T1 T2 ac aO j0 j1 j2 j3 j4 j5
 refine AO 7 rfl (fun D l=>?_)
 go_simp
 refine(Tp X S V0 gp cp Vp zp qp gq cq Vq zq qq t2 AP AQ aF.1 aF.2).mono ?_
 rintro e t3⟨g5,c5,V5,aV,aJ,rfl,bS,A5,bd,hb⟩
 refine l.out _ _ (aG.below AB hb) (fun _=>?_)
 clear l D
 refine Cn ?_
 refine AU 8 ?_
 have R3:=RB.below hb
 obtain⟨r0,r1,r2⟩:=R3.cells
 have rf:=R3.free
 have rl:=R3.lt
 have O3:=hxy (BM O2 hb)
 have aN:(Vs g4 ys.length c4).ownBlock≠some Q:=Ar R3 O3 Ad
 have aa:Hid (Fw p w t3/\CJ t3 p C n b/\Ak t3 g5 (8*6) (vF V5)/\BK X S 8 V0 8 V5 aV aJ=true/\g5≠Q/\w.heap.size<=g5/\w.heap.size<=Q/\p<Q):=⟨F2.trans (.of_below hb),K2.below hb,A5,bd,AB,AB,by have:=BO.out;omega,by have:=BO.out;omega⟩
 have T3:Hid (Tm (fun q=>q=ob∨q=Q) y5 t3):=aG.below AB hb
 have aY:Hid (Wl ys/\ys.length<=gb (d+1)):=(by
  rw[<-bj.out]
  refine⟨?_,by simp;omega⟩
  have:=Wl.node (s:=s) (x:=af) (y:=ag) (xs:=[]) (by rw[<-HS.out];show(2:Int)≠1;decide) (by rw[<-HS.out]) (by rw[<-HS.out]) aW.1 aX.1 .nil
  simpa using this:Wl ys/\ys.length<=gb (d+1))
 clear hb A5 bd R3 RB F2 K2 AP AQ O2 aG aF X5 DP DQ
 refine AO 9 rfl (fun D l=>?_)
 go_simp
 refine l.out _ _ (T3.set3 (Or.inr rfl) _ _ _) (fun _=>?_)
 clear l D
 refine wpAnyH_done AV ?_ _
 go_wp2_with fail
 refine mY (.tuple #[Vs g4 ys.length c4,.agg #[Vs g5 8 c5,Vi aV,Vi aJ]]) (by simp[results,Tryz.results85,go_sem, *]) ⟨g4,c4,ys,g5,c5,V5,aV,aJ,rfl,aY.1,aY.2,ER O3 aN _ _ _,Or.inr aa.2.2.2.2.2.1,EI aa.2.2.1 aa.2.2.2.2.1 _ _ _,aa.2.2.2.1,GI aa.1 aa.2.2.2.2.2.2.1 _ _ _,Ez aa.2.1 aa.2.2.2.2.2.2.2 _ _ _⟩
end Go.Proofs.YtcjnmdgomocpgaaGreatDoor
