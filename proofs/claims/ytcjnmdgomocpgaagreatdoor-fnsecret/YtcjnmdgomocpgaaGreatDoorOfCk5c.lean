import Derived.Test.YtcjnmdgomocpgaaGreatDoorOfCkAs
set_option maxHeartbeats 16000000
set_option maxRecDepth 20000
namespace Go.Proofs.YtcjnmdgomocpgaaGreatDoor
open Go.RowKit Go.Deep
variable {d:List SV}{b n:Nat}{E:Option Nat}{v:Value}{Q u w:World}
def yU(F:FS)(w:World)(e:Ending)(w':World):Prop:=
 ∃(g cg:Nat),e=.returned (.agg #[Vs g 8 cg,Vi F.z,Vi F.c])/\w.heap.size<=g/\Ak w' g (8*6) (vF F.V)/\Below w.heap.size w w'
theorem fJ{l e s q:Nat}{d:List Value}(h:w.ownsRow l e s v n d)(o:v.ownBlock≠some q)(j:Nat)(u:Value):(w.setCell (Va q j) u).ownsRow l e s v n d:=by
 refine⟨h.1,?_⟩;rcases h.2 with h|⟨g,a,b,rfl,c,k,m⟩
 ·exact .inl h
 ·exact .inr ⟨g,a,b,rfl,c,Ao k (fun e=>o (by rw[e];rfl)) j u,m⟩
def Wi(x:VV):List Value:=[Vi x.k,.bool x.s,Vi x.m,Vi x.h,Vi x.lo,Vi x.hi]
theorem WJ(V:Nat->VV)(k:Nat):first (k*6) (vF V)++Wi (V k)=first ((k+1)*6) (vF V):=by
 unfold first
 rw[show(k+1)*6=k*6+1+1+1+1+1+1 by omega];simp only[List.range_succ,List.map_append,List.append_assoc,List.map_cons,List.map_nil];rw[<-Nat.add_zero (k*6),Bz V k 0 AB];simp only[Nat.add_zero];rw[Bz V k 1 AB,Bz V k 2 AB,Bz V k 3 AB,Bz V k 4 AB,Bz V k 5 AB];rfl
def Tn(row:Option Nat)(u u':World):Prop:=∀q,q<u.heap.size->row≠some q->u'.heap[q]?=u.heap[q]?
theorem Tn.of(h:Below u.heap.size u Q):Tn E u Q:=fun q a _=>h.block q a
theorem Tn.grown{K:World}(h:Below u.heap.size u Q)(g:Q.grownBy K E):Tn E u K:=fun q a b=>(g.block q (Ey a h.size) (fun e=>b e.symm)).trans (h.block q a)
theorem V3.tn{t:Nat}{x y z:Value}(h:V3 u b t x y z)(f:Tn E u Q)(a:E≠some b):V3 Q b t x y z:=(f b h.lt a).trans h
theorem Ak.tn{g:Nat->Value}(h:Ak u b n g)(f:Tn E u Q)(d:E≠some b):∀i,i<n->Q.cell? (Va b i)=some (g i):=fun i c=>(World.cell?_of_block (a:=Va b i) (f b h.lt d)).trans (h.cell c)
theorem Hz{B e s q:Nat}{d:List Value}(h:u.ownsRow B e s v n d)(a:v.ownBlock=some q):B<=q:=by
 rcases h.2 with⟨b,_⟩|⟨g,c,j,b,k,_⟩
 ·rw[b]at a;cases a
 ·rw[b]at a
  have:g=q:=Option.some.inj a;omega
structure JX(w:World)(bA cA:Nat)(z c:Int)(bB cB:Nat)(z' c':Int)(ba bb br bo k:Nat)(v:Value)(J:Nat->VV)(u:World):Prop where
 bel:Below w.heap.size w u
 A:V3 u ba 31 (Vs bA 8 cA) (Vi z) (Vi c)
 B:V3 u bb 31 (Vs bB 8 cB) (Vi z') (Vi c')
 R:V3 u br 31 (.slice none 0 0) (Vi 0) (Vi 0)
 O:V3 u bo 31 v (Vi (MF z z')) (Vi (MF c c'))
 row:u.ownsRow w.heap.size 47 6 v k (first (k*6) (vF J))
 o1:w.heap.size=ba
 o2:ba<bb
 o3:bb<br
 o4:br<bo
theorem JX.below{K F:Nat}{z c:Int}{r:Nat}{I c':Int}{L bb Q bo k:Nat}{J:Nat->VV}{u':World}(h:JX w K F z c r b I c' L bb Q bo k v J u)(f:Below u.heap.size u u'):JX w K F z c r b I c' L bb Q bo k v J u':=
 ⟨h.bel.trans (f.mono h.bel.size),h.A.below f,h.B.below f,h.R.below f,h.O.below f,BM h.row f,h.o1,h.o2,h.o3,h.o4⟩
theorem Kz(bA cA:Nat)(V:Nat->VV)(z c:Int)(bB cB:Nat)(U:Nat->VV)(z' c':Int)(w:World)(hA:Ak w bA (8*6) (vF V))(hB:Ak w bB (8*6) (vF U)):
 Ks 109 #[.agg #[Vs bA 8 cA,Vi z,Vi c],.agg #[Vs bB 8 cB,Vi z',Vi c']] w (yU (jF ⟨V,z,c⟩ ⟨U,z',c'⟩) w):=by
 have HA:=hxy hA;have HB:=hxy hB;obtain⟨J,hJ⟩:∃y:Nat->VV,(fun i=>Cg (V i) (U i))=y:=⟨_,rfl⟩
 have HJ:Hid (∀i,J i=Cg (V i) (U i)):=fun i=>by rw[<-hJ]
 obtain⟨iV,gV,gV0,gV1,gV2⟩:=info_parts LC;have HIV:Hid (_/\_/\_/\_):=⟨gV,gV0,gV1,gV2⟩
 have hJJ:jF ⟨V,z,c⟩ ⟨U,z',c'⟩=⟨J,MF z z',MF c c'⟩:=by show(⟨fun i=>Cg (V i) (U i),MF z z',MF c c'⟩:FS)=_;rw[hJ]
 rw[hJJ];clear hA hB hJ hJJ gV gV0 gV1 gV2;go_enter Tryz.func109,Tryz.ntmps109;go_upto_region 1 with fail;obtain⟨u,hu,pa,pb,pr,bu⟩:∃y,((w.alloc (.cells #[Vs bA 8 cA,Vi z,Vi c] 31)).alloc (.cells #[Vs bB 8 cB,Vi z',Vi c'] 31)).alloc (.cells #[.slice none 0 0,Vi 0,Vi 0] 31)=y/\V3 y w.heap.size 31 (Vs bA 8 cA) (Vi z) (Vi c)/\V3 y (w.heap.size+1) 31 (Vs bB 8 cB) (Vi z') (Vi c')/\V3 y (w.heap.size+1+1) 31 (.slice none 0 0) (Vi 0) (Vi 0)/\Bw w y:=by
  have n0:=V3.new w 31 (Vs bA 8 cA) (Vi z) (Vi c);generalize hx:w.alloc (.cells #[Vs bA 8 cA,Vi z,Vi c] 31)=x at *;have s0:x.heap.size=w.heap.size+1:=by rw[<-hx];simp
  have b0:Bw w x:=by rw[<-hx];exact Ai
  have n1:=V3.new x 31 (Vs bB 8 cB) (Vi z') (Vi c');generalize hy:x.alloc (.cells #[Vs bB 8 cB,Vi z',Vi c'] 31)=y at *;have s1:y.heap.size=w.heap.size+1+1:=by rw[<-hy];simp[s0]
  have b1:Bw x y:=by rw[<-hy];exact Ai
  have n2:=V3.new y 31 (.slice none 0 0) (Vi 0) (Vi 0);have b2:Bw y (y.alloc (.cells #[.slice none 0 0,Vi 0,Vi 0] 31)):=Ai;rw[s0]at n1;rw[s1]at n2;exact⟨_,rfl,(n0.below b1).below b2,n1.below b2,n2,(b0.trans (b1.mono AB)).trans (b2.mono AB)⟩
 rw[hu];obtain⟨ba,hba⟩:=Au w.heap.size;obtain⟨bb,hbb⟩:=Au (w.heap.size+1);obtain⟨br,hbr⟩:=Au (w.heap.size+1+1);rw[hbr]at pr⊢;rw[hbb]at pb⊢;rw[hba]at pa⊢;have hbz:=pr.lt;have BO:Hid (w.heap.size=ba/\ba<bb/\bb<br):=⟨hba,AB,AB⟩
 have PA:=hxy pa;have PB:=hxy pb;have PR:=hxy pr;have BU:=hxy bu;clear hu pa pb pr bu hba hbb hbr;go_cut [2,3,4,5](fun s2 s3 s4 s5 wx=>s2=Vq ba/\s3=Vq bb/\s4=Vq br/\∃bo,s5=Vq bo/\JX w bA cA z c bB cB z' c' ba bb br bo 0 (.slice none 0 0) J wx)
 case first=>
  have a1:Cb u ba 1 (Vi z):=fun w' h=>(PA.below h).cells.2.1
  have a2:Cb u ba 2 (Vi c):=fun w' h=>(PA.below h).cells.2.2
  have b1:Cb u bb 1 (Vi z'):=fun w' h=>(PB.below h).cells.2.1
  have b2:Cb u bb 2 (Vi c'):=fun w' h=>(PB.below h).cells.2.2
  have END:Hid (∀t:World,Bw u t->JX w bA cA z c bB cB z' c' ba bb br t.heap.size 0 (.slice none 0 0) J (t.alloc (.cells #[.slice none 0 0,Vi (MF z z'),Vi (MF c c')] 31))):=fun t ht=>by
   have hz:=ht.size;have bz:=BU.size;have bn:Bw t (t.alloc (.cells #[.slice none 0 0,Vi (MF z z'),Vi (MF c c')] 31)):=Ai;exact⟨(BU.trans (ht.mono bz)).trans (bn.mono AB),(PA.below ht).below bn,(PB.below ht).below bn,(PR.below ht).below bn,V3.new _ _ _ _ _,World.ownsRow_nil _ _ _ _,BO.1,BO.2.1,BO.2.2,AB⟩
  refine wp_region_held_drew (S:=fun w'=>Bw u w') AV BJ.drew (fun _=>?_);refine AU 0 ?_;refine AU 1 ?_;refine AU 2 ?_;refine AU 3 ?_;refine AU 5 ?_;refine AU 6 ?_;refine AU 7 ?_;refine AU 8 ?_;have hbd:Bw u u.drew:=BJ.drew;generalize u.drew=t0 at hbd⊢;refine wpAnyH_ready (rs:=[4,11]) AV AX ?_;refine AllReadyH.cons rfl (fun KK hK=>?_) (AllReadyH.cons rfl (fun KK hK=>?_) AllReadyH.nil)
  ·skip
   go_simp;refine(EP _ _ _).mono ?_;rintro e w1⟨rfl,hw⟩;rw[hw];clear hw;refine hK.out _ _ hbd (fun _=>?_);clear hK KK;try go_frame
   refine wpAnyH_ready (rs:=[9,11]) AV AX ?_;refine AllReadyH.cons rfl (fun KK hK=>?_) (AllReadyH.cons rfl (fun KK hK=>?_) AllReadyH.nil)
   ·skip
    go_simp;refine(EP _ _ _).mono ?_;rintro e w1⟨rfl,hw⟩;rw[hw];clear hw;refine hK.out _ _ hbd (fun _=>?_)
    clear hK KK
    try go_frame
    refine AU 10 ?_
    refine AO 11 rfl (fun KK hK=>?_)
    go_simp
    refine hK.out _ _ (hbd.alloc hbd.size _) (fun _=>?_)
    clear hK KK
    try go_frame
    refine AO 12 rfl (fun KK hK=>?_)
    go_simp
    refine hK.out _ _ (hbd.alloc hbd.size _) (fun _=>?_)
    clear hK KK
    try go_frame
    refine wpAnyH_done AV ?_ _
    go_wp2_with fail
    go_meet
    exact⟨rfl,rfl,rfl,_,rfl,END t0 hbd⟩
   ·skip
    go_simp
    refine hK.out _ _ (hbd.alloc hbd.size _) (fun _=>?_)
    clear hK KK
    try go_frame
    refine AO 9 rfl (fun KK hK=>?_)
    go_simp
    refine(EP _ _ _).mono ?_
    rintro e w1⟨rfl,hw⟩
    rw[hw]
    clear hw
    refine hK.out _ _ (hbd.alloc hbd.size _) (fun _=>?_)
    clear hK KK
    try go_frame
    refine AU 10 ?_
    refine AO 12 rfl (fun KK hK=>?_)
    go_simp
    refine hK.out _ _ (hbd.alloc hbd.size _) (fun _=>?_)
    clear hK KK
    try go_frame
    refine wpAnyH_done AV ?_ _
    go_wp2_with fail
    go_meet
    exact⟨rfl,rfl,rfl,_,rfl,END t0 hbd⟩
  ·skip
   go_simp
   refine hK.out _ _ (hbd.alloc hbd.size _) (fun _=>?_)
   clear hK KK
   try go_frame
   refine AO 4 rfl (fun KK hK=>?_)
   go_simp
   refine(EP _ _ _).mono ?_
   rintro e w1⟨rfl,hw⟩
   rw[hw]
   clear hw
   refine hK.out _ _ (hbd.alloc hbd.size _) (fun _=>?_)
   clear hK KK
   try go_frame
   refine AO 9 rfl (fun KK hK=>?_)
   go_simp
   refine(EP _ _ _).mono ?_
   rintro e w1⟨rfl,hw⟩
   rw[hw]
   clear hw
   refine hK.out _ _ (hbd.alloc hbd.size _) (fun _=>?_)
   clear hK KK
   try go_frame
   refine AU 10 ?_
   refine AO 12 rfl (fun KK hK=>?_)
   go_simp
   refine hK.out _ _ (hbd.alloc hbd.size _) (fun _=>?_)
   clear hK KK
   try go_frame
   refine wpAnyH_done AV ?_ _
   go_wp2_with fail
   go_meet
   exact⟨rfl,rfl,rfl,_,rfl,END t0 hbd⟩
 case rest=>
 obtain⟨rfl,rfl,rfl,bo,rfl,fx⟩:=hcut
 have X0:=hxy fx
 clear fx PA PB PR BU
 generalize wc=u1 at X0⊢
 go_wp2_with fail
 go_loopw [6](fun iv wr=>∃(k:Nat)(v:Value),iv=Vi k/\k<=8/\JX w bA cA z c bB cB z' c' ba bb br bo k v J wr)(fun iv _=>8-(intOf iv).toNat)
 case atStart=>exact⟨0,_,rfl,AB,X0⟩
 case round=>
  clear X0
  obtain⟨k,v,rfl,hk,x⟩:=hrel
  have X:Hid (JX w bA cA z c bB cB z' c' ba bb br bo k v J wr):=x
  clear x
  obtain⟨va,vc,hv⟩:=Cf X.row
  subst hv
  by_cases hlt:k<8
  rotate_left
  ·obtain rfl:k=8:=AB
   obtain⟨g,cg,hv⟩:=Dy X.row AB
   obtain⟨rfl,rfl⟩:va=some ⟨g,0,none⟩/\vc=cg:=by simpa using hv
   have RW:=hxy X.row
   have c0:=X.O.cells
   have r0:=X.R.cells
   have rf:=X.R.free
   have rl:=X.R.lt
   have ol:=X.O.lt
   have hne:g≠br:=fun e=>Ar X.R RW Ad (by rw[e];rfl)
   have wbr:w.heap.size<=br:=by have:=X.o1;have:=X.o2;have:=X.o3;omega
   have BEL:=hxy X.bel
   have rg:w.heap.size<=g:=(RW.lt _ rfl).1
   clear X hv
   go_wp2_with fail
   refine mY (.agg #[Vs g 8 vc,Vi (MF z z'),Vi (MF c c')]) (by simp[results,Tryz.results109,go_sem, *]) ⟨g,vc,rfl,rg,?_,?_⟩
   ·exact(((Gy RW).other (a:=Va br 0) (fun e=>hne e.symm) _).other (a:=Va br 1) (fun e=>hne e.symm) _).other (a:=Va br 2) (fun e=>hne e.symm) _
   ·(iterate 3 refine Below.setCell ?_ wbr _)
    exact BEL
  have hlt':(k:Int)<8:=AB
  have wbo:=X.O.lt
  have wl:=X.bel.size
  have wo:w.heap.size<=bo:=by have:=X.o1;have:=X.o2;have:=X.o3;have:=X.o4;omega
  have RA:=hxy (HA.below X.bel HA.lt)
  have RB:=hxy (HB.below X.bel HB.lt)
  have n0:(Value.slice va k vc).ownBlock≠some ba:=Ar X.A X.row Ad
  have n1:(Value.slice va k vc).ownBlock≠some bb:=Ar X.B X.row Ad
  have n2:(Value.slice va k vc).ownBlock≠some br:=Ar X.R X.row Ad
  have n3:(Value.slice va k vc).ownBlock≠some bo:=Ar X.O X.row Ad
  have n4:(Value.slice va k vc).ownBlock≠some bA:=fun e=>by have:=Hz X.row e;have:=HA.lt;omega
  have n5:(Value.slice va k vc).ownBlock≠some bB:=fun e=>by have:=Hz X.row e;have:=HB.lt;omega
  have NE:Hid ((Value.slice va k vc).ownBlock≠some ba/\(Value.slice va k vc).ownBlock≠some bb/\(Value.slice va k vc).ownBlock≠some br/\(Value.slice va k vc).ownBlock≠some bo):=⟨n0,n1,n2,n3⟩
  obtain⟨row,hrow⟩:=Au ((Value.slice va k vc).ownBlock)
  rw[hrow]at n0 n1 n2 n3 n4 n5
  have HRW:=hxy hrow
  clear hrow
  have o0:∀w',Tn row wr w'->w'.cell? (Va bo 0)=some (.slice va k vc):=fun w' h=>(X.O.tn h n3).cells.1
  have a0:∀w',Tn row wr w'->w'.cell? (Va ba 0)=some (Vs bA 8 cA):=fun w' h=>(X.A.tn h n0).cells.1
  have b0:∀w',Tn row wr w'->w'.cell? (Va bb 0)=some (Vs bB 8 cB):=fun w' h=>(X.B.tn h n1).cells.1
  have g0:∀w',Tn row wr w'->w'.cell? (Va bA (k*6))=some (Vi (V k).k):=fun w' h=>(RA.tn h n4 (k*6+0) AB).trans (congrArg some (Bz V k 0 AB))
  have g1:∀w',Tn row wr w'->w'.cell? (Va bA (k*6+1))=some (.bool (V k).s):=fun w' h=>(RA.tn h n4 (k*6+1) AB).trans (congrArg some (Bz V k 1 AB))
  have g2:∀w',Tn row wr w'->w'.cell? (Va bA (k*6+2))=some (Vi (V k).m):=fun w' h=>(RA.tn h n4 (k*6+2) AB).trans (congrArg some (Bz V k 2 AB))
  have g3:∀w',Tn row wr w'->w'.cell? (Va bA (k*6+3))=some (Vi (V k).h):=fun w' h=>(RA.tn h n4 (k*6+3) AB).trans (congrArg some (Bz V k 3 AB))
  have g4:∀w',Tn row wr w'->w'.cell? (Va bA (k*6+4))=some (Vi (V k).lo):=fun w' h=>(RA.tn h n4 (k*6+4) AB).trans (congrArg some (Bz V k 4 AB))
  have g5:∀w',Tn row wr w'->w'.cell? (Va bA (k*6+5))=some (Vi (V k).hi):=fun w' h=>(RA.tn h n4 (k*6+5) AB).trans (congrArg some (Bz V k 5 AB))
  have q0:∀w',Tn row wr w'->w'.cell? (Va bB (k*6))=some (Vi (U k).k):=fun w' h=>(RB.tn h n5 (k*6+0) AB).trans (congrArg some (Bz U k 0 AB))
  have q1:∀w',Tn row wr w'->w'.cell? (Va bB (k*6+1))=some (.bool (U k).s):=fun w' h=>(RB.tn h n5 (k*6+1) AB).trans (congrArg some (Bz U k 1 AB))
  have q2:∀w',Tn row wr w'->w'.cell? (Va bB (k*6+2))=some (Vi (U k).m):=fun w' h=>(RB.tn h n5 (k*6+2) AB).trans (congrArg some (Bz U k 2 AB))
  have q3:∀w',Tn row wr w'->w'.cell? (Va bB (k*6+3))=some (Vi (U k).h):=fun w' h=>(RB.tn h n5 (k*6+3) AB).trans (congrArg some (Bz U k 3 AB))
  have q4:∀w',Tn row wr w'->w'.cell? (Va bB (k*6+4))=some (Vi (U k).lo):=fun w' h=>(RB.tn h n5 (k*6+4) AB).trans (congrArg some (Bz U k 4 AB))
  have q5:∀w',Tn row wr w'->w'.cell? (Va bB (k*6+5))=some (Vi (U k).hi):=fun w' h=>(RB.tn h n5 (k*6+5) AB).trans (congrArg some (Bz U k 5 AB))
  go_upto_region 5 with fail
  refine BH (T:=fun w'=>Tn row wr w') (s:=16) AV (Tn.of BJ.drew) (fun hHeld=>?_)
  have hB0:Bw wr wr.drew:=BJ.drew
  generalize wr.drew=t0 at hB0 hHeld⊢
  refine BR 0 ?_
  refine BR 1 ?_
  refine BR 2 ?_
  refine BR 3 ?_
  refine BR 4 ?_
  refine BR 5 ?_
  refine BR 6 ?_
  refine BR 7 ?_
  refine BR 8 ?_
  refine BR 9 ?_
  refine BR 10 ?_
  refine BR 11 ?_
  refine Ah (i:=12) rfl AV (fun KK hK=>?_)
  go_simp
  refine(Lc _ _ _ _ _ _ _ _ _ _ _ _ _).mono ?_
  rintro e t1⟨rfl,hb1⟩
  have hB1:=hB0.trans (hb1.mono hB0.size)
  refine hK.out _ _ (Tn.of hB1) (fun _=>?_)
  clear hK KK hb1 hB0 hHeld
  have hj:=HJ.out k
  obtain⟨j,hje⟩:∃y:VV,J k=y:=⟨_,rfl⟩
  have HJK:=hxy hje
  rw[show(⟨(V k).k,(V k).s,(V k).m,(V k).h,(V k).lo,(V k).hi⟩:VV)=V k from rfl,show(⟨(U k).k,(U k).s,(U k).m,(U k).h,(U k).lo,(U k).hi⟩:VV)=U k from rfl,<-hj,hje]
  clear hj hje
  unfold VV.v
  try go_frame
  refine Ah (i:=13) rfl AV (fun KK hK=>?_)
  go_simp
  obtain⟨t2,ht2,hb2,HC2⟩:∃y,t1.alloc (.cells #[Vi j.k,.bool j.s,Vi j.m,Vi j.h,Vi j.lo,Vi j.hi] 47)=y/\Bw t1 y/\Hid (∀i x,(Wi j)[i]?=some x->y.cell? ((⟨t1.heap.size,0,none⟩:Addr).add i)=some x):=⟨_,rfl,Ai,Fq t1 _ _⟩
  rw[ht2]
  have hB2:=hB1.trans (hb2.mono hB1.size)
  obtain⟨tb,htb⟩:=Au t1.heap.size
  rw[htb]at HC2⊢
  refine hK.out _ _ (Tn.of hB2) (fun _=>?_)
  clear hK KK ht2 hb2 htb hB1
  try go_frame
  refine Ah (i:=14) rfl AV (fun KK hK=>?_)
  refine DJ rfl (.tmp 23) (.tmp 35) 24 rfl w.heap.size 47 iV (.agg #[Vi 0,.bool false,Vi 0,Vi 0,Vi 0,Vi 0]) 6 48 Tryz.underlying24 HIV.1 HIV.2.1 HIV.2.2.1 HIV.2.2.2 rfl Ad (.slice va k vc) k (first (k*6) (vF J)) rfl (BM X.row hB2) ⟨tb,0,none⟩ 1 1 (Wi j) rfl rfl HC2 ?d2 (by unfold maxLen;omega) AB (by have:=hB2.size;omega) ?_
  case d2=>
   intro x hx
   simp only[Wi,List.mem_cons,List.not_mem_nil,or_false]at hx
   rcases hx with rfl|rfl|rfl|rfl|rfl|rfl<;>rfl
  intro v' t3 hown hgrow
  obtain⟨m0,m1,m2,m3⟩:=NE.out
  have X2:=X.below hB2
  have A3:=Be X2.A hgrow m0
  have B3:=Be X2.B hgrow m1
  have R3:=Be X2.R hgrow m2
  have O3:V3 t3 bo 31 (.slice va k vc) (Vi (MF z z')) (Vi (MF c c')):=Be X2.O hgrow m3
  have bel3:Bw w t3:=X2.bel.trans (BJ.grown hgrow X2.bel.size (fun q hq=>Hz X.row hq))
  have X3:Hid (∃v'',v'=v''/\JX w bA cA z c bB cB z' c' ba bb br bo (k+1) v'' J (t3.setCell (Va bo 0) v'')):=⟨_,rfl,by
   have hown':t3.ownsRow w.heap.size 47 6 v' (k+1) (first ((k+1)*6) (vF J)):=by rw[<-WJ,HJK.out];exact hown
   refine⟨bel3.setCell (p:=Va bo 0) wo _,Ao A3 (by have:=X.o2;have:=X.o3;have:=X.o4;omega) _ _,Ao B3 (by have:=X.o3;have:=X.o4;omega) _ _,Ao R3 (by have:=X.o4;omega) _ _,O3.set0 _,fJ hown' (Ar O3 hown' Ad) _ _,X.o1,X.o2,X.o3,X.o4⟩⟩
  have hT3:t3.cell? (Va bo 0)=some (.slice va k vc):=O3.cells.1
  have hF3:=O3.free
  have hL3:=O3.lt
  have hT:Tn row wr t3:=Tn.grown hB2 (by rw[<-HRW.out];exact hgrow)
  obtain⟨sa,scp,rfl⟩:=Cf hown
  obtain⟨v'',e'',X4⟩:=X3.out
  subst e''
  have X4:=hxy X4
  refine hK.out _ _ hT (fun _=>?_)
  clear hK KK hown hgrow m0 m1 m2 m3 X2 A3 B3 R3 O3 bel3 X3 o0 a0 b0 g0 g1 g2 g3 g4 g5 q0 q1 q2 q3 q4 q5 hT hB2
  try go_frame
  refine BR 15 ?_
  refine BD rfl AV AV (fun KK hK=>?_)
  go_simp
  refine hK.out _ _ ?_
  clear hK KK hT3 hF3 hL3
  go_wp2_with fail
  go_roundw
  case rel=>exact⟨k+1,_,by go_num,AB,X4⟩
  case measure=>simp[intOf];omega
def sv0:SV:=⟨0,0,0,0,0,0,0,0,0,0,0⟩
def Qb(xs:List SV)(i:Nat):SV:=xs.getD i sv0
structure yo(P:List SV->Prop):Prop where
 nil:P []
 ins:∀{s:SV}{xs:List SV},s.k=1->s.thn=0->s.els=0->P xs->P (s::xs)
 node:∀{s:SV}{x y xs:List SV},s.k≠1->s.thn=(x.length:Int)->s.els=(y.length:Int)->P x->P y->P xs->P (s::(x++y++xs))
def Wl(xs:List SV):Prop:=∀P,yo P->P xs
theorem Wl.nil:Wl []:=fun _ c=>c.nil
theorem Wl.ins{s:SV}(a:s.k=1)(b:s.thn=0)(e:s.els=0)(h:Wl d):Wl (s::d):=fun P c=>c.ins a b e (h P c)
theorem Wl.node{s:SV}{x y xs:List SV}(d:s.k≠1)(e:s.thn=(x.length:Int))(j:s.els=(y.length:Int))(a:Wl x)(b:Wl y)(h:Wl xs):Wl (s::(x++y++xs)):=fun P c=>c.node d e j (a P c) (b P c) (h P c)
theorem Wl.inv(h:Wl d):d=[]∨(∃s c,d=s::c/\s.k=1/\s.thn=0/\s.els=0/\Wl c)∨∃s x y c,d=s::(x++y++c)/\s.k≠1/\s.thn=(x.length:Int)/\s.els=(y.length:Int)/\Wl x/\Wl y/\Wl c:=
 (h (fun d=>Wl d/\(d=[]∨(∃s c,d=s::c/\s.k=1/\s.thn=0/\s.els=0/\Wl c)∨∃s x y c,d=s::(x++y++c)/\s.k≠1/\s.thn=(x.length:Int)/\s.els=(y.length:Int)/\Wl x/\Wl y/\Wl c))
   ⟨⟨.nil,.inl rfl⟩,fun e j l h=>⟨.ins e j l h.1,.inr (.inl ⟨_,_,rfl,e,j,l,h.1⟩)⟩,fun e j l a b h=>⟨.node e j l a.1 b.1 h.1,.inr (.inr ⟨_,_,_,_,rfl,e,j,l,a.1,b.1,h.1⟩)⟩⟩).2
theorem Wl.app{D:List SV}(h:Wl d)(k:Wl D):Wl (d++D):=(h (fun d=>Wl d/\Wl (d++D)) ⟨⟨.nil,k⟩,fun c e j h=>⟨.ins c e j h.1,.ins c e j h.2⟩,fun c e j a b h=>⟨.node c e j a.1 b.1 h.1,by
 rw[List.cons_append,List.append_assoc];exact .node c e j a.1 b.1 h.2⟩⟩).2
def SL(w:World)(v:Value)(xs:List SV):Prop:=∃ao cap,v=.slice ao xs.length cap/\xs.length<=cap/\UM w ao (xs.length*11) (JW (Qb xs))
theorem SL.below{j:World}(h:SL w v d)(l:Below w.heap.size w j):SL j v d:=by
 obtain⟨b,a,c,e,k⟩:=h;exact⟨b,a,c,e,k.below l BQ⟩
theorem SL.below_of{j:World}(h:SL w v d)(a:Below w.heap.size w j):SL j v d:=h.below a
theorem nX(a:List SV)(i m:Nat)(j:Nat)(b:j<m*11):JW (Qb a) (i*11+j)=JW (Qb ((a.drop i).take m)) j:=by
 unfold JW Qb;rw[show(i*11+j)/11=i+j/11 by omega,show(i*11+j)%11=j%11 by omega];have:j/11<m:=AB;simp only[KJ,List.getElem?_take,List.getElem?_drop,this,if_true]
theorem At.sub{c:Nat}(h:At w b c (d.length*11) (JW (Qb d)))(i m:Nat)(e:i+m<=d.length):At w b (c+i*11) (m*11) (JW (Qb ((d.drop i).take m))):=
 ⟨h.lt,fun j a=>by rw[Nat.add_assoc,h.cell AB,nX d i m j a]⟩
def U8(R:CR)(rounds:Int)(nH:Nat)(S:Nat->HS)(V0:Nat->VV)(bA:Nat)(B:Nat)(w:World)(v:Value)(z c:Int):Prop:=
 ∃(g cg:Nat)(V:Nat->VV),v=Vs g 8 cg/\(g=bA∨B<=g)/\Ak w g (8*6) (vF V)/\BK nH S 8 V0 8 V z c=true/\R=.ok ⟨V,z,c⟩ rounds
def Wv(R:CR)(err at':Int):Prop:=(err≠0->R=.bad err at')/\(err=0->at'=0)
def qK(R:CR)(nH:Nat)(S:Nat->HS)(V0:Nat->VV)(bA:Nat)(w:World)(e:Ending)(w':World):Prop:=
 ∃(err at':Int)(ao:Option Addr)(m cap:Nat)(z c rounds:Int),e=.returned (DV err at' (.slice ao m cap) z c rounds)/\0<=rounds/\rounds<=1000/\Wv R err at'/\(err=0->U8 R rounds nH S V0 bA w.heap.size w' (.slice ao m cap) z c)/\Below w.heap.size w w'
def BC(xs:List SV):Prop:=∀(bH cH nH:Nat)(S:Nat->HS)(bR cR:Nat)(V0:Nat->VV)(bA cA:Nat)(V:Nat->VV)(z c at' rounds:Int)(v:Value)(w:World),nH<=1048576->Ck w bH nH S bR 8 V0->Ak w bA (8*6) (vF V)->BK nH S 8 V0 8 V z c=true->SL w v xs->0<=rounds->rounds<=1000->0<=at'->at'+(xs.length:Int)<=2097152->
 Ks 31 #[.agg #[Vs bH nH cH,Vs bR 8 cR],v,Vi at',.agg #[Vs bA 8 cA,Vi z,Vi c],Vi rounds] w (qK (ET ⟨nH,S,V0⟩ xs at' ⟨V,z,c⟩ rounds) nH S V0 bA w)
def oz:Array Value:=#[Vi 0,Vi 0,.slice none 0 0,Vi 0,Vi 0,Vi 0]
structure LX(w:World)(bH cH nH:Nat)(S:Nat->HS)(bR cR:Nat)(V0:Nat->VV)(b0:Nat)(bs bh br bA cA:Nat)(V:Nat->VV)(z c:Int)(u:World):Prop where
 bel:Below w.heap.size w u
 sg:u.heap[bs]?=some (.cells #[Vs bH nH cH,Vs bR 8 cR] 26)
 hd:V3 u bh 31 (Vs bA 8 cA) (Vi z) (Vi c)
 R:u.heap[br]?=some (.cells oz 89)
 sc:Ck u bH nH S bR 8 V0
 A:Ak u bA (8*6) (vF V)
 ok:BK nH S 8 V0 8 V z c=true
 nw:bA=b0∨w.heap.size<=bA
 ne:bA≠br
 o1:w.heap.size=bs
 o2:bs<bh
 o3:bh<br
section
variable{w:World}{bH cH nH:Nat}{S:Nat->HS}{bR cR:Nat}{V0:Nat->VV}{b0 bs bh br bA cA:Nat}{V:Nat->VV}{z c:Int}{u u':World}
theorem LX.below(h:LX w bH cH nH S bR cR V0 b0 bs bh br bA cA V z c u)(f:Below u.heap.size u u'):LX w bH cH nH S bR cR V0 b0 bs bh br bA cA V z c u':=
 ⟨h.bel.trans (f.mono h.bel.size),Ac h.sg f,h.hd.below f,Ac h.R f,h.sc.below f,h.A.below f h.A.lt,h.ok,h.nw,h.ne,h.o1,h.o2,h.o3⟩
theorem LX.cells(h:LX w bH cH nH S bR cR V0 b0 bs bh br bA cA V z c u):(u.cell? (Va bs 0)=some (Vs bH nH cH)/\u.cell? (Va bs 1)=some (Vs bR 8 cR))/\(u.cell? (Va bh 0)=some (Vs bA 8 cA)/\u.cell? (Va bh 1)=some (Vi z)/\u.cell? (Va bh 2)=some (Vi c))/\bs<u.heap.size/\bh<u.heap.size:=
 ⟨⟨(AJ h.sg 0).trans rfl,(AJ h.sg 1).trans rfl⟩,h.hd.cells,Bp h.sg,h.hd.lt⟩
theorem LX.res(h:LX w bH cH nH S bR cR V0 b0 bs bh br bA cA V z c u):u.cell? (Va br 0)=some (Vi 0)/\u.cell? (Va br 1)=some (Vi 0)/\u.cell? (Va br 2)=some (.slice none 0 0)/\u.cell? (Va br 3)=some (Vi 0)/\u.cell? (Va br 4)=some (Vi 0)/\u.cell? (Va br 5)=some (Vi 0)/\(∀i,u.frozen? (Va br i)=false)/\br<u.heap.size:=
 ⟨(AJ h.R 0).trans rfl,(AJ h.R 1).trans rfl,(AJ h.R 2).trans rfl,(AJ h.R 3).trans rfl,(AJ h.R 4).trans rfl,(AJ h.R 5).trans rfl,CP h.R,Bp h.R⟩
theorem LX.put(h:LX w bH cH nH S bR cR V0 b0 bs bh br bA cA V z c u){g L:Nat}{U:Nat->VV}{I B:Int}(a:Ak u g (8*6) (vF U))(q:BK nH S 8 V0 8 U I B=true)(l:g=b0∨w.heap.size<=g)(j:g≠br)(k:g≠bh)(b:bH≠bh)(d:bR≠bh):LX w bH cH nH S bR cR V0 b0 bs bh br g L U I B (((u.setCell (Va bh 0) (Vs g 8 L)).setCell (Va bh 1) (Vi I)).setCell (Va bh 2) (Vi B)):=by
 have m:=h.o1;have n:=h.o2;have o:=h.o3;refine⟨?_,Ao (Ao (Ao h.sg AB _ _) AB _ _) AB _ _,h.hd.set _ _ _,Ao (Ao (Ao h.R AB _ _) AB _ _) AB _ _,⟨((h.sc.h.other ?_ _).other ?_ _).other ?_ _,((h.sc.r.other ?_ _).other ?_ _).other ?_ _⟩,((a.other ?_ _).other ?_ _).other ?_ _,q,l,j,m,n,o⟩
 ·exact((h.bel.setCell (p:=Va bh 0) (show w.heap.size<=bh by omega) _).setCell (p:=Va bh 1) (show w.heap.size<=bh by omega) _).setCell (p:=Va bh 2) (show w.heap.size<=bh by omega) _
 all_goals first|exact fun e=>b e.symm|exact fun e=>d e.symm|exact fun e=>k e.symm
def FC(u:World)(b:Nat)(a0 a1 a2 a3 a4 a5:Value):World:=(((((u.setCell (Va b 0) a0).setCell (Va b 1) a1).setCell (Va b 2) a2).setCell (Va b 3) a3).setCell (Va b 4) a4).setCell (Va b 5) a5
theorem Ci{B:Nat}(h:Below B w u)(a:B<=b)(c d e j k l:Value):Below B w (FC u b c d e j k l):=
 (((((h.setCell (p:=Va b 0) a _).setCell (p:=Va b 1) a _).setCell (p:=Va b 2) a _).setCell (p:=Va b 3) a _).setCell (p:=Va b 4) a _).setCell (p:=Va b 5) a _
theorem IL{g:Nat}{f:Nat->Value}(h:Ak u g n f)(a:g≠b)(c d j k l m:Value):Ak (FC u b c d j k l m) g n f:=
 (((((h.other (fun e=>a e.symm) _).other (fun e=>a e.symm) _).other (fun e=>a e.symm) _).other (fun e=>a e.symm) _).other (fun e=>a e.symm) _).other (fun e=>a e.symm) _
end
theorem Vy(w:World){A M o:Nat}{S:Nat->HS}{D O:Nat}{V0:Nat->VV}{K F:Nat}{V:Nat->VV}{z c:Int}(p:Ck w A o S D 8 V0)(d:Ak w K (8*6) (vF V))(q:BK o S 8 V0 8 V z c=true):
 LX w A M o S D O V0 K w.heap.size (w.heap.size+1) (w.heap.size+1+1) K F V z c (((w.alloc (.cells #[Vs A o M,Vs D 8 O] 26)).alloc (.cells #[Vs K 8 F,Vi z,Vi c] 31)).alloc (.cells oz 89)):=by
 have r:=Az w (.cells #[Vs A o M,Vs D 8 O] 26);generalize h:w.alloc (.cells #[Vs A o M,Vs D 8 O] 26)=x at *;have m:x.heap.size=w.heap.size+1:=by rw[<-h];simp
 have n:Bw w x:=by rw[<-h];exact Ai
 have k:=V3.new x 31 (Vs K 8 F) (Vi z) (Vi c);generalize j:x.alloc (.cells #[Vs K 8 F,Vi z,Vi c] 31)=y at *;have s:y.heap.size=w.heap.size+1+1:=by rw[<-j];simp[m]
 have e:Bw x y:=by rw[<-j];exact Ai
 have l:=Az y (.cells oz 89);have a:Bw y (y.alloc (.cells oz 89)):=Ai;have b:Bw w (y.alloc (.cells oz 89)):=(n.trans (e.mono AB)).trans (a.mono AB);rw[m]at k;rw[s]at l;exact⟨b,Ac (Ac r e) a,k.below a,l,p.below b,d.below b d.lt,q,Or.inl rfl,by have:=d.lt;omega,rfl,AB,AB⟩
section
variable{body:FS->Int->CR}{cond here:Int}{k:Nat}{F B J:FS}{r r':Int}{RR:CR}
theorem Jj(h:(k:Int)<20):20-k=(20-(k+1))+1:=AB
theorem Ze(i:Cq body cond here (20-k) F r=RR)(h:¬(k:Int)<20):RR=.bad 10 here:=by
 rw[<-i,show 20-k=0 by omega];rfl
theorem YD(i:Cq body cond here (20-k) F r=RR)(h:(k:Int)<20)(a:¬r<1000):RR=.bad 10 here:=by
 rw[<-i,Jj h,Cq,if_pos AB]
theorem Yt(i:Cq body cond here (20-k) F r=RR)(h:(k:Int)<20)(c:r<1000){f:Int}(a:He F cond=f)(b:¬f=0):RR=.bad f here:=by
 rw[<-i,Jj h,Cq,if_neg AB,if_pos AB,a]
theorem fV(i:Cq body cond here (20-k) F r=RR)(h:(k:Int)<20)(d:r<1000)(c:He F cond=0){e a:Int}(b:body F (r+1)=.bad e a):RR=.bad e a:=by
 rw[<-i,Jj h,Cq,if_neg AB,if_neg AB,b]
theorem Yl(i:Cq body cond here (20-k) F r=RR)(h:(k:Int)<20)(e:r<1000)(d:He F cond=0)(a:body F (r+1)=.ok B r')(b:jF F B=J)(c:JI J F):RR=.ok F r':=by
 rw[<-i,Jj h,Cq,if_neg AB,if_neg AB,a];dsimp only;rw[b,if_pos (IZ.2 c)]
theorem Yy(i:Cq body cond here (20-k) F r=RR)(h:(k:Int)<20)(e:r<1000)(d:He F cond=0)(a:body F (r+1)=.ok B r')(b:jF F B=J)(c:¬JI J F):Cq body cond here (20-(k+1)) J r'=RR:=by
 rw[<-i,Jj h,Cq,if_neg AB,if_neg AB,a];dsimp only;rw[b,if_neg fun q=>c (IZ.1 q)]
end
theorem WR(xs:List SV)(IH:BC xs)(bH cH nH:Nat)(S:Nat->HS)(bR cR:Nat)(V0:Nat->VV)(bA cA:Nat)(V:Nat->VV)(z c cond here rounds:Int)(v:Value)(w:World)(lH:nH<=1048576)(h1:Ck w bH nH S bR 8 V0)(h2:Ak w bA (8*6) (vF V))(h3:BK nH S 8 V0 8 V z c=true)(h4:SL w v xs)(r0:0<=rounds)(r1:rounds<=1000)(a0:0<=here)(a1:here+1+(xs.length:Int)<=2097152):
 Ks 107 #[.agg #[Vs bH nH cH,Vs bR 8 cR],v,Vi cond,Vi here,.agg #[Vs bA 8 cA,Vi z,Vi c],Vi rounds] w (qK (Cq (fun B q=>ET ⟨nH,S,V0⟩ xs (here+1) B q) cond here 20 ⟨V,z,c⟩ rounds) nH S V0 bA w):=by
 obtain⟨RR,hRR⟩:=Au (Cq (fun B q=>ET ⟨nH,S,V0⟩ xs (here+1) B q) cond here 20 ⟨V,z,c⟩ rounds);rw[hRR];have INV0:=hxy hRR;clear hRR;have N1:Hid (bH<w.heap.size/\bR<w.heap.size):=⟨h1.h.lt,h1.r.lt⟩
 have HL:=hxy h4;have LL:=hxy lH;have X0:Hid (LX w bH cH nH S bR cR V0 bA w.heap.size (w.heap.size+1) (w.heap.size+1+1) bA cA V z c (((w.alloc (.cells #[Vs bH nH cH,Vs bR 8 cR] 26)).alloc (.cells #[Vs bA 8 cA,Vi z,Vi c] 31)).alloc (.cells oz 89))):=Vy w h1 h2 h3;obtain⟨va,vc,rfl,_,_⟩:=h4;clear h1 h2 h3 lH;go_enter Tryz.func107,Tryz.ntmps107;go_upto_region 1 with fail;unfold oz at X0;obtain⟨u,hu⟩:=Au (((w.alloc (.cells #[Vs bH nH cH,Vs bR 8 cR] 26)).alloc (.cells #[Vs bA 8 cA,Vi z,Vi c] 31)).alloc (.cells #[Vi 0,Vi 0,.slice none 0 0,Vi 0,Vi 0,Vi 0] 89));rw[hu]at X0⊢;obtain⟨bs,hbs⟩:=Au w.heap.size;obtain⟨bh,hbh⟩:=Au (w.heap.size+1);obtain⟨br,hbr⟩:=Au (w.heap.size+1+1);have X0:Hid (LX w bH cH nH S bR cR V0 bA bs bh br bA cA V z c u):=by rw[<-hbs,<-hbh,<-hbr];exact X0
 rw[hbr,hbh,hbs];have BO:Hid (w.heap.size=bs/\bs<bh/\bh<br):=⟨hbs,AB,AB⟩
 clear hu hbs hbh hbr;go_wp2_with fail;go_loopw [5,13](fun rv kv wr=>∃(k:Nat)(rounds:Int)(g cg:Nat)(U:Nat->VV)(z' c':Int),rv=Vi rounds/\kv=Vi k/\k<=20/\0<=rounds/\rounds<=1000/\Hid (Cq (fun B q=>ET ⟨nH,S,V0⟩ xs (here+1) B q) cond here (20-k) ⟨U,z',c'⟩ rounds=RR)/\LX w bH cH nH S bR cR V0 bA bs bh br g cg U z' c' wr)(fun _ kv _=>20-(intOf kv).toNat)
 case atStart=>exact⟨0,rounds,bA,cA,V,z,c,rfl,rfl,AB,r0,r1,INV0,X0⟩
 case round=>
  clear X0 r0 r1 INV0;obtain⟨k,rounds,g,cg,U,z',c',rfl,rfl,hk,r0,r1,INV,x⟩:=hrel;have X:=hxy x;clear x;by_cases hlt:(k:Int)<20/\rounds<1000
  rotate_left
  ·have BAD:∀t,Bw wr t->Hid (LX w bH cH nH S bR cR V0 bA bs bh br g cg U z' c' t):=fun t h=>X.below h
   by_cases hk20:(k:Int)<20
   ·have hr:¬rounds<1000:=fun h=>hlt ⟨hk20,h⟩
    go_wp2_with fail;refine(II _ _ _ _).mono ?_;rintro e t⟨rfl,hb⟩;have Y:=BAD t hb;obtain⟨y0,y1,y2,y3,y4,y5,yf,yl⟩:=Y.res;unfold DV;go_wp2_with fail;refine mY (DV 10 here (.slice none 0 0) 0 0 rounds) (by simp[results,Tryz.results107,go_sem,DV, *]) ⟨10,here,none,0,0,0,0,rounds,rfl,r0,r1,⟨fun _=>YD INV hk20 AB,fun e=>absurd e Ad⟩,fun e=>absurd e Ad,?_⟩;exact Ci Y.bel (by have:=BO.out;omega) _ _ _ _ _ _
   ·go_wp2_with fail
    refine(II _ _ _ _).mono ?_;rintro e t⟨rfl,hb⟩;have Y:=BAD t hb;obtain⟨y0,y1,y2,y3,y4,y5,yf,yl⟩:=Y.res;unfold DV;go_wp2_with fail;refine mY (DV 10 here (.slice none 0 0) 0 0 rounds) (by simp[results,Tryz.results107,go_sem,DV, *]) ⟨10,here,none,0,0,0,0,rounds,rfl,r0,r1,⟨fun _=>Ze INV AB,fun e=>absurd e Ad⟩,fun e=>absurd e Ad,?_⟩;exact Ci Y.bel (by have:=BO.out;omega) _ _ _ _ _ _
  obtain⟨hk20,hr1000⟩:=hlt;obtain⟨_,⟨c0,c1,c2⟩,cl1,cl2⟩:=X.cells;go_wp2_with fail;refine(Ko _ _ _ U _ _ _ _).mono ?_;rintro e t1⟨rfl,hb⟩;obtain⟨fr,hfr⟩:=Au (He ⟨U,z',c'⟩ cond);rw[hfr];have HFR:=hxy hfr;clear hfr;have X1:=hxy (X.below hb);clear hb X c0 c1 c2 cl1 cl2;by_cases hf:fr=0
  rotate_left
  ·go_wp2_with fail
   refine(II _ _ _ _).mono ?_;rintro e t⟨rfl,hb⟩;have Y:=hxy (X1.below hb);obtain⟨y0,y1,y2,y3,y4,y5,yf,yl⟩:=Y.res;unfold DV;go_wp2_with fail;refine mY (DV fr here (.slice none 0 0) 0 0 (rounds+1)) (by simp[results,Tryz.results107,go_sem,DV, *]) ⟨fr,here,none,0,0,0,0,rounds+1,rfl,AB,AB,⟨fun _=>Yt INV hk20 hr1000 HFR hf,fun e=>absurd e hf⟩,fun e=>absurd e hf,?_⟩;exact Ci Y.bel (by have:=BO.out;omega) _ _ _ _ _ _
  subst hf;obtain⟨⟨s0,s1⟩,⟨c0,c1,c2⟩,cl1,cl2⟩:=X1.cells;go_wp2_with fail;refine(IH bH cH nH S bR cR V0 g cg U z' c' (here+1) (rounds+1) _ t1 LL X1.sc X1.A X1.ok (HL.below_of X1.bel) AB AB AB a1).mono ?_;rintro e t2⟨err,at2,ao,m,cap,z2,c2',rr,rfl,q0,q1,hbd,hab,hb⟩;have HRB:=hxy hbd.1;clear hbd;have X2:=hxy (X1.below hb);have T2:=hxy hb.size;have HAB:=hxy hab;clear hb hab s0 s1 c0 c1 c2 cl1 cl2;unfold DV;by_cases he:err=0
  rotate_left
  ·obtain⟨t3,ht3,b3⟩:∃y,t2.alloc (.cells #[Vi err,Vi at2,.slice ao m cap,Vi z2,Vi c2',Vi rr] 89)=y/\Bw t2 y:=⟨_,rfl,Ai⟩
   have n3:=Az t2 (.cells #[Vi err,Vi at2,.slice ao m cap,Vi z2,Vi c2',Vi rr] 89);rw[ht3]at n3;have Y:=hxy (X2.below b3);obtain⟨y0,y1,y2,y3,y4,y5,yf,yl⟩:=Y.res;have v0:=(AJ n3 0).trans rfl;have v1:=(AJ n3 1).trans rfl;have v2:=(AJ n3 2).trans rfl;have v3:=(AJ n3 3).trans rfl;have v4:=(AJ n3 4).trans rfl;have v5:=(AJ n3 5).trans rfl;have vl:=Bp n3;go_upto_region 9 with fail;clear ht3 b3 n3;go_wp2_with fail;refine mY (DV err at2 (.slice ao m cap) z2 c2' rr) (by simp[results,Tryz.results107,go_sem,DV, *]) ⟨err,at2,ao,m,cap,z2,c2',rr,rfl,q0,q1,⟨fun _=>fV INV hk20 hr1000 HFR (HRB he),fun e=>absurd e he⟩,fun e=>absurd e he,?_⟩;exact Ci Y.bel (by have:=BO.out;omega) _ _ _ _ _ _
  subst he;obtain⟨g2,cq,U2,hv2,nw2,A2,ok2,hER⟩:=HAB.out rfl;have HER:=hxy hER;clear hER HRB;simp only[Value.slice.injEq]at hv2;obtain⟨rfl,rfl,rfl⟩:=hv2;have A2:=hxy A2;have NW2:=hxy nw2;have OK2:=hxy ok2;clear nw2 ok2 HAB;obtain⟨t3,ht3,b3⟩:∃y,t2.alloc (.cells #[Vi 0,Vi at2,Vs g2 8 cap,Vi z2,Vi c2',Vi rr] 89)=y/\Bw t2 y:=⟨_,rfl,Ai⟩
  have n3:=Az t2 (.cells #[Vi 0,Vi at2,Vs g2 8 cap,Vi z2,Vi c2',Vi rr] 89);rw[ht3]at n3;have X3:=hxy (X2.below b3);have A3:=hxy (A2.below b3 A2.lt);obtain⟨_,⟨c0,c1,c2⟩,cl1,cl2⟩:=X3.cells;have v0:=(AJ n3 0).trans rfl;have v2:=(AJ n3 2).trans rfl;have v3:=(AJ n3 3).trans rfl;have v4:=(AJ n3 4).trans rfl;have v5:=(AJ n3 5).trans rfl;have vl:=Bp n3;go_upto_region 9 with fail;have B13:Hid (t1.heap.size<=t3.heap.size):=(by have:=b3.size;have:=T2.out;omega:t1.heap.size<=t3.heap.size)
  clear ht3 b3 n3 X2 A2;obtain⟨no,hno⟩:=Au t2.heap.size;rw[hno]at v0 v2 v3 v4 v5 vl⊢;clear hno;go_wp2_with fail;refine(Kz g cg U z' c' g2 cap U2 z2 c2' t3 X3.A A3).mono ?_;rintro e t4⟨g4,cg4,rfl,ng4,A4,hb⟩;have ok4:=Ri.join (G:=⟨nH,S,V0⟩) (F:=⟨U,z',c'⟩) (B:=⟨U2,z2,c2'⟩) X3.ok OK2;obtain⟨J,hJ⟩:=Au (jF ⟨U,z',c'⟩ ⟨U2,z2,c2'⟩);rw[hJ]at A4 ok4⊢;obtain⟨U4,z4,c4⟩:=J;have HJ:=hxy hJ;clear hJ;unfold Ri at ok4;dsimp only at A4 ok4⊢;have X4:=hxy (X3.below hb);have A4:=hxy A4;have NG4:Hid (t3.heap.size<=g4/\t1.heap.size<=t3.heap.size):=⟨ng4,B13⟩
  have OK4:=hxy ok4;have HBR3:=hxy (Bp X3.R);clear hb ng4 ok4 X3 A3 c0 c1 c2 cl1 cl2 v0 v2 v3 v4 v5 vl;obtain⟨t5,ht5,b5⟩:∃y,t4.alloc (.cells #[Vs g4 8 cg4,Vi z4,Vi c4] 31)=y/\Bw t4 y:=⟨_,rfl,Ai⟩
  have n5:=V3.new t4 31 (Vs g4 8 cg4) (Vi z4) (Vi c4);rw[ht5]at n5;have X5:=hxy (X4.below b5);have A5:=hxy (A4.below b5 A4.lt);obtain⟨nn,hnn⟩:=Au t4.heap.size;have N5:Hid (V3 t5 nn 31 (Vs g4 8 cg4) (Vi z4) (Vi c4)):=(by rw[<-hnn];exact n5:V3 t5 nn 31 (Vs g4 8 cg4) (Vi z4) (Vi c4))
  obtain⟨_,⟨c0,c1,c2⟩,cl1,cl2⟩:=X5.cells;obtain⟨m0,m1,m2⟩:=N5.cells;have ml:=N5.lt;go_upto_region 13 with fail;try rw[hnn]
  clear ht5 b5 n5 hnn X4 A4;go_wp2_with fail;refine(Vz g4 cg4 U4 z4 c4 g cg U z' c' t5 A5 X5.A).mono ?_;rintro e t6⟨same,rfl,hs1,hs0,hb⟩;have HS1:=hxy hs1;have HS0:=hxy hs0;clear hs1 hs0;have X6:=hxy (X5.below hb);have A6:=hxy (A5.below hb A5.lt);have N6:=hxy (N5.below hb);clear hb X5 A5 N5 c0 c1 c2 cl1 cl2 m0 m1 m2 ml;obtain⟨_,⟨c0,c1,c2⟩,cl1,cl2⟩:=X6.cells;cases same with
  |true=>
   obtain⟨y0,y1,y2,y3,y4,y5,yf,yl⟩:=X6.res;have YA:Hid (Ak t6 g (8*6) (vF U)/\g≠br/\BK nH S 8 V0 8 U z' c'=true/\(g=bA∨w.heap.size<=g)/\Bw w t6):=⟨X6.A,X6.ne,X6.ok,X6.nw,X6.bel⟩
   have hbr:bh≠br:=by have:=BO.out;omega
   clear X6 A6 N6;go_wp2_with fail;refine mY (DV 0 0 (Vs g 8 cg) z' c' rr) (by simp[results,Tryz.results107,go_sem,DV, *]) ⟨0,0,_,_,_,z',c',rr,rfl,q0,q1,⟨fun e=>absurd rfl e,fun _=>rfl⟩,fun _=>⟨g,cg,U,rfl,YA.2.2.2.1,?_,YA.2.2.1,Yl INV hk20 hr1000 HFR HER HJ (HS1 (by first|rfl|trivial))⟩,?_⟩
   ·exact IL YA.1 YA.2.1 _ _ _ _ _ _
   ·exact Ci YA.2.2.2.2 (by have:=BO.out;omega) _ _ _ _ _ _
  |false=>
   obtain⟨m0,m1,m2⟩:=N6.cells;have ml:=N6.lt;have hf:=X6.hd.free;have hgr:=HBR3.out;have Y:Hid (LX w bH cH nH S bR cR V0 bA bs bh br g4 cg4 U4 z4 c4 (((t6.setCell (Va bh 0) (Vs g4 8 cg4)).setCell (Va bh 1) (Vi z4)).setCell (Va bh 2) (Vi c4))):=X6.put A6 OK4 (Or.inr (by have:=NG4.out;have:=BO.out;omega)) (by have:=NG4.out;omega) (by have:=NG4.out;have:=BO.out;omega) (by have:=N1.out;have:=BO.out;omega) (by have:=N1.out;have:=BO.out;omega);clear X6 A6 N6;go_wp2_with fail;go_roundw
   case rel=>exact⟨k+1,rr,g4,cg4,U4,z4,c4,rfl,by go_num,AB,q0,q1,Yy INV hk20 hr1000 HFR HER HJ (HS0 (by first|rfl|trivial)),Y⟩
   case measure=>simp[intOf];omega
end Go.Proofs.YtcjnmdgomocpgaaGreatDoor
