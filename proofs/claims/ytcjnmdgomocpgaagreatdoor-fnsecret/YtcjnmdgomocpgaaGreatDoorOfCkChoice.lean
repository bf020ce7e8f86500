import Derived.Test.YtcjnmdgomocpgaaGreatDoorOfFlMath
import Derived.Test.YtcjnmdgomocpgaaGreatDoorOfCk5e
set_option maxHeartbeats 8000000
set_option maxRecDepth 20000
namespace Go.Proofs.YtcjnmdgomocpgaaGreatDoor
section
open Go.RowKit Go.Deep
variable {q:Nat}
theorem Ba{u:World}{o:Obj}(h:u.heap[q]?=some o):q<u.heap.size:=(I8.1 h).1
section
variable{G:SG}{L:Nat->SV}{w0:World}{bC mb bH cH p:Nat}
theorem YJ(hk:(L p).k=1)(hs:BZ (L p) 0=true):wZ G L w0 bC mb bH cH p (.iface 155 (.agg #[Vi (p:Int),Vi (L p).op,Vi (L p).d,Vi (L p).a,Vi (L p).b,Vi (L p).imm,Vi (L p).h])):=by
 intro d u F FA r hF hC hG;have C0:=hxy hC;have HF:=hxy hF;have HG:=hxy hG;obtain⟨Z0,ad⟩:∃x,x=fA DC:=⟨_,rfl⟩
 have HZ:=hxy ad;have CB:Hid (bC<u.heap.size/\mb<u.heap.size):=⟨hC.lt,hC.M.lt⟩
 clear hF hC hG ad;have K:=hxy hk;have SO:=hxy hs;obtain⟨RR,Z⟩:=Au (Iw G L p F r);rw[Z];have HR:=hxy Z;clear hk hs Z;have O:=xB;go_enter Tryz.func55,Tryz.ntmps55;go_upto_region 4 with fail;clear O;rw[BX];obtain⟨u1,ah,b1,f1,z1,x1⟩:=sD u HF (.cells #[Vi (p:Int),Vi (L p).op,Vi (L p).d,Vi (L p).a,Vi (L p).b,Vi (L p).imm,Vi (L p).h] 155);rw[ah];have C1:=hxy (C0.below b1);have F1:=hxy f1;have Z1:=hxy z1;have Q:=hxy x1;have B1:=hxy b1;have Y:=Ba x1;clear ah b1 f1 z1 x1 C0;obtain⟨N,af⟩:=Au (GU G (L p) F);have D:=hxy af;clear af;go_cut [9,10](fun s9 aj wx=>∃(q:Nat)(B:FS),s9=Vq q/\aj=Vi N/\BS wx q B/\(N=0->B=Km G (L p) F)/\Bw u1 wx/\u1.heap.size<=q)
 case first=>
  have j1:∀c,Bw u1 c->c.cell? ⟨u.heap.size+1+1,1,none⟩=some (Vi (L p).op):=fun c h=>(AJ ((h.block _ Y).trans Q) 1).trans rfl
  have j2:∀c,Bw u1 c->c.cell? ⟨u.heap.size+1+1,2,none⟩=some (Vi (L p).d):=fun c h=>(AJ ((h.block _ Y).trans Q) 2).trans rfl
  have j3:∀c,Bw u1 c->c.cell? ⟨u.heap.size+1+1,3,none⟩=some (Vi (L p).a):=fun c h=>(AJ ((h.block _ Y).trans Q) 3).trans rfl
  have j4:∀c,Bw u1 c->c.cell? ⟨u.heap.size+1+1,4,none⟩=some (Vi (L p).b):=fun c h=>(AJ ((h.block _ Y).trans Q) 4).trans rfl
  have j5:∀c,Bw u1 c->c.cell? ⟨u.heap.size+1+1,5,none⟩=some (Vi (L p).imm):=fun c h=>(AJ ((h.block _ Y).trans Q) 5).trans rfl
  have j6:∀c,Bw u1 c->c.cell? ⟨u.heap.size+1+1,6,none⟩=some (Vi (L p).h):=fun c h=>(AJ ((h.block _ Y).trans Q) 6).trans rfl
  have k0:Cb u1 bC 0 (Vs bH G.nH cH):=fun c h=>(C1.below h).cells.1
  have U:Hid (∀t,Bw u1 t->Ks 92 #[.agg FA,.agg #[Vi (L p).op,Vi (L p).d,Vi (L p).a,Vi (L p).b,Vi (L p).imm,Vi (L p).h],Vs bH G.nH cH] t fun e c=>∃B:FS,e=.returned (.tuple #[.agg (fA B),Vi (GU G (L p) F)])/\(GU G (L p) F=0->B=Km G (L p) F)/\Bw t c):=fun t ht=>l9 HF SO K HG.1 bH cH t (C1.below ht).H
  rw[D.out]at U;refine wp_region_held_drew (S:=fun c=>Bw u1 c) AV BJ.drew (fun _=>?_);refine Cj 0 (.agg FA) rfl (fun c hw=>Pf (.tmp 5) rfl u.heap.size rfl F FA HF (F1.below hw)) ?_;refine Cn ?_;refine EX [1,2,3,4,5,6] ?_;have z:Bw u1 u1.drew:=BJ.drew;generalize u1.drew=R at z⊢;refine wpAnyH_ready (rs:=[7,11]) AV AX ?_;refine AllReadyH.cons rfl (fun A l=>?_) (AllReadyH.cons rfl (fun A l=>?_) AllReadyH.nil)
  ·go_simp
   refine(U R z).mono ?_;rintro e O⟨B,rfl,I,hb⟩;have j:=z.trans (hb.mono z.size);refine l.out _ _ j (fun _=>?_);clear l A;refine Cn ?_;refine EX [8,9,10] ?_;refine AO 11 rfl (fun A l=>?_);go_simp;rw[BX];have n:=j.alloc j.size (.cells (CX (fun _=>zV) 0 0) 76);refine l.out _ _ n (fun _=>?_);clear l A;refine Cn ?_;refine AO 12 rfl (fun A l=>?_);refine IE AV ?_;refine EG (.tmp 9) (.tmp 26) rfl O.heap.size B DC rfl (fA B) rfl rfl (BS.fresh O) ?_;intro t2 E m hz;have hq:=j.size;have s:Bw u1 t2:=n.trans ⟨m.os,m.tape,m.output,m.size,fun k hk=>m.block k (by simp;omega) AB⟩;refine l.out _ _ s (fun _=>?_);clear l A;try simp only[Act.put,List.getElem_toArray,List.getElem_cons_zero,List.getElem_cons_succ]
   refine AU 13 ?_;refine wpAnyH_done AV ?_ _;have o:Hid (BS t2 O.heap.size B/\(N=0->B=Km G (L p) F)/\Bw u1 t2/\u1.heap.size<=O.heap.size):=⟨E,I,s,hq⟩
   clear E m hz hb j n s I hq j1 j2 j3 j4 j5 j6 k0;go_wp2_with fail;go_meet;exact⟨O.heap.size,B,rfl,rfl,o.1,o.2.1,o.2.2.1,o.2.2.2⟩
  ·go_simp
   rw[BX];have aa:=BS.fresh R;obtain⟨O,ag,ae⟩:∃y,R.alloc (.cells (CX (fun _=>zV) 0 0) 76)=y/\Bw R y:=⟨_,rfl,Ai⟩
   rw[ag]at aa⊢;have j:=z.trans (ae.mono z.size);refine l.out _ _ j (fun _=>?_);clear l A;refine Cn ?_;refine AO 7 rfl (fun A l=>?_);go_simp;refine(U O j).mono ?_;rintro e t2⟨B,rfl,I,hb⟩;have n:=j.trans (hb.mono j.size);refine l.out _ _ n (fun _=>?_);clear l A;refine Cn ?_;refine EX [8,9,10] ?_;refine AO 12 rfl (fun A l=>?_);refine IE AV ?_;refine EG (.tmp 9) (.tmp 26) rfl R.heap.size B DC rfl (fA B) rfl rfl (aa.below hb) ?_;intro t3 E m hz;have hq:=z.size
   have ai:=n.size
   have s:Bw u1 t3:=n.trans ⟨m.os,m.tape,m.output,m.size,fun k hk=>m.block k AB AB⟩
   refine l.out _ _ s (fun _=>?_)
   clear l A
   try simp only[Act.put,List.getElem_toArray,List.getElem_cons_zero,List.getElem_cons_succ]
   refine AU 13 ?_
   refine wpAnyH_done AV ?_ _
   have o:Hid (BS t3 R.heap.size B/\(N=0->B=Km G (L p) F)/\Bw u1 t3/\u1.heap.size<=R.heap.size):=⟨E,I,s,hq⟩
   clear E m hz hb j n s I hq ai aa ag ae j1 j2 j3 j4 j5 j6 k0
   go_wp2_with fail
   go_meet
   exact⟨R.heap.size,B,rfl,rfl,o.1,o.2.1,o.2.2.1,o.2.2.2⟩
 case rest=>
 obtain⟨q,B,rfl,rfl,E,I,C,hq⟩:=hcut
 have HA:=hxy E
 have HB:=hxy I
 have B2:=hxy C
 have BU:=hxy (B1.trans (C.mono B1.size))
 have C2:=hxy (C1.below C)
 have ZR:=hxy (Z1.below C)
 have X2:Hid (wc.heap[u.heap.size+1+1]?=some (.cells #[Vi (p:Int),Vi (L p).op,Vi (L p).d,Vi (L p).a,Vi (L p).b,Vi (L p).imm,Vi (L p).h] 155)):=(C.block _ Y).trans Q
 have HQ:Hid (u.heap.size+1+1<q):=(by omega:u.heap.size+1+1<q)
 have S2:=Ba X2
 clear E I C hq C1 F1 Z1 Q
 by_cases h0:N=0
 rotate_left
 ·have e0:(N !=0)=true:=by simp[h0]
  have NE:=hxy h0
  clear h0
  go_upto_region 6 with fail
  have j0:∀c,Ft (u.heap.size+1) wc c->c.cell? ⟨u.heap.size+1+1,0,none⟩=some (Vi (p:Int)):=fun c h=>(AJ ((h.block _ S2 AB).trans X2) 0).trans rfl
  refine wp_region_held_drew (S:=fun c=>Ft (u.heap.size+1) wc c) AV (Ft.refl _ _).drew (fun _=>?_)
  refine Cj 0 (.agg Z0) rfl (fun c _=>Em rfl Z0 HZ) ?_
  refine Cn ?_
  refine EX [1,2,3,4,5] ?_
  refine AO 6 rfl (fun A l=>?_)
  refine IE AV ?_
  refine EG (.tmp 6) (.tmp 30) rfl (u.heap.size+1) DC DC rfl Z0 HZ rfl (BS.below ZR BJ.drew) ?_
  intro wE E m hz
  have ab:Ft (u.heap.size+1) wc wE:=(Ft.refl _ _).drew.trans m
  refine l.out _ _ ab (fun _=>?_)
  clear l A
  try simp only[Act.put,List.getElem_toArray,List.getElem_cons_zero,List.getElem_cons_succ]
  refine AU 7 ?_
  refine wpAnyH_done AV ?_ _
  have o:Hid (BS wE (u.heap.size+1) DC/\Ft (u.heap.size+1) wc wE):=⟨E,ab⟩
  clear E m hz ab
  go_wp2
  refine mY (.tuple #[.agg Z0,.iface 83 (.agg #[Vi N,Vi (p:Int)])]) (Am rfl _ _ (u.heap.size+1) _ _ rfl rfl (o.1.var HZ)) ?_
  rw[show Z0=fA DC from HZ.out]
  exact⟨(Kc.of_below BU).ft o.2 (Or.inl AB),Or.inr ⟨N,p,_,by rw[<-HR.out,Iw,if_pos K.out,if_pos (by rw[D.out];exact NE.out),D.out],.flaw _ _,rfl⟩⟩
 have e0:(N !=0)=false:=by simp[h0]
 have X:=hxy h0
 clear h0
 obtain⟨FB,ac⟩:∃x,x=fA B:=⟨_,rfl⟩
 have J:=hxy ac
 clear ac
 go_wp2_with(first|(refine BI rfl (.tmp 9) rfl q rfl B FB J HA ?_)|(refine H6 rfl (.tmp 6) (.tmp 36) rfl (u.heap.size+1) B DC rfl FB J rfl ZR ?_;intro wE hE m hz))
 have o:Hid (BS wE (u.heap.size+1) B/\Ft (u.heap.size+1) wc wE):=⟨hE,m⟩
 clear hE m hz
 go_wp2
 refine mY (.tuple #[.agg FB,.nilIface]) (Am rfl _ _ (u.heap.size+1) _ _ rfl rfl (o.1.var J)) ?_
 rw[show FB=fA B from J.out]
 have I:=HB.out X
 have n1:u.heap.size+1≠bC:=by have:=C2.lt;have h1:=CB.1;omega
 have n2:u.heap.size+1≠mb:=by have h1:=CB.2;omega
 exact⟨(Kc.of_below BU).ft o.2 (Or.inl AB),Or.inl ⟨B,r,by rw[<-HR.out,Iw,if_pos K.out,if_neg (by rw[D.out];simp[X.out]),I],by rw[I];exact HG.tr (D.trans X),rfl,C2.ft o.2 n1 n2 (by have:=CB.1;have:=C2.c1;omega)⟩⟩
end
theorem Aq{R:Array Oper}{k:List Oper}{Z:Oper}{a:Act}{w:World}{Q:Exit->Act->World->Prop}(e:Z.guard=none)(x y:Operand)(l:Z.op=.store 76 x y)(b:Nat)(F j:FS)(n:a.eval x=Vq b)(d:Array Value)(hF:d=fA F)(o:a.eval y=.agg d)(m:BS w b j)
 (h:∀c,BS c b F->Ft b w c->c.heap.size=w.heap.size->Hid (wpList Tryz.prog R Q k (a.put Z.dst undef) c)):wpList Tryz.prog R Q (Z::k) a w:=H6 e x y l b F j n d hF o m h
structure Gr(u:World)(bC mb:Nat)(o:Obj)(F:FS)(v:World):Prop where
 K:Kc bC mb u v
 X:v.heap[u.heap.size]?=some o
 F:BS v (u.heap.size+1) F
 R:BS v (u.heap.size+1+1) DC
 n1:bC<u.heap.size
 n2:mb<u.heap.size
section
variable{G:SG}{L:Nat->SV}{w0:World}{bC mb bH cH:Nat}{d:Int}{u v v':World}{o:Obj}{F:FS}{r:Int}
theorem Qz{F:FS}{FA:Array Value}(hF:FA=fA F)(o:Obj)(h:CS G L w0 bC mb bH cH d u r):∃y,((u.alloc o).alloc (.cells FA 76)).alloc (.cells (CX (fun _=>zV) 0 0) 76)=y/\Gr u bC mb o F y/\CS G L w0 bC mb bH cH d y r:=by
 obtain⟨y,b,a,c,e,j⟩:=xw u hF o;exact⟨y,b,⟨Kc.of_below a,c,e,j,h.lt,h.M.lt⟩,h.below a⟩
theorem Gr.kc(h:Gr u bC mb o F v)(k:Kc bC mb v v'):Gr u bC mb o F v':=by
 have:=h.n1;have:=h.n2;exact⟨h.K.trans k,(k.block _ (Ba h.X) AB AB).trans h.X,h.F.kc k AB AB,h.R.kc k AB AB,h.n1,h.n2⟩
theorem Gr.below(h:Gr u bC mb o F v)(k:Below v.heap.size v v'):Gr u bC mb o F v':=h.kc (Kc.of_below k)
theorem Gr.ft(h:Gr u bC mb o F v)(k:Ft q v v')(a:u.heap.size+1+1<q):Gr u bC mb o F v':=
 ⟨h.K.ft k (Or.inl AB),(k.block _ (Ba h.X) AB).trans h.X,h.F.ft k AB,h.R.ft k AB,h.n1,h.n2⟩
theorem Gr.setF{a:FS}(h:Gr u bC mb o F v)(k:Ft (u.heap.size+1) v v')(hF:BS v' (u.heap.size+1) a):Gr u bC mb o a v':=
 ⟨h.K.ft k (Or.inl AB),(k.block _ (Ba h.X) AB).trans h.X,hF,h.R.ft k AB,h.n1,h.n2⟩
theorem Gr.lt(h:Gr u bC mb o F v):u.heap.size+1+1<v.heap.size:=Ak.lt h.R
theorem Gr.bad{R:CR}{e a:Int}{x:Value}{c:World}(h:Gr u bC mb o F v)(j:Ft (u.heap.size+1+1) v c)(b:R=.bad e a)(k:Fg x e a):NS G L w0 bC mb bH cH d R u (.returned (.tuple #[.agg (fA DC),x])) c:=
 ⟨h.K.ft j (Or.inl AB),Or.inr ⟨e,a,x,b,k,rfl⟩⟩
theorem Gr.ok{R:CR}{B:FS}{e:Int}{c:World}(h:Gr u bC mb o F v)(b:Ft (u.heap.size+1+1) v c)(k:R=.ok B e)(j:JD G B)(a:CS G L w0 bC mb bH cH d v e):NS G L w0 bC mb bH cH d R u (.returned (.tuple #[.agg (fA B),.nilIface])) c:=by
 have:=h.n1;have:=h.n2;have:=a.c1;exact⟨h.K.ft b (Or.inl AB),Or.inl ⟨B,e,k,j,rfl,a.ft b AB AB AB⟩⟩
theorem CS.var{x:Obj}(h:CS G L w0 bC mb bH cH d v r)(l:Gr u bC mb o F v)(a:q=v.heap.size)(f:Ft q (v.alloc x) v'):CS G L w0 bC mb bH cH d v' r/\Gr u bC mb o F v':=by
 subst a;have b:Bw v (v.alloc x):=Ai;have:=h.lt;have:=h.M.lt;have:=h.B.size;have:=l.lt;exact⟨(h.below b).ft f AB AB AB,(l.below b).ft f AB⟩
end
end
section
open Go.RowKit Go.ChangeMaps Go.MapKept
open Go.WideElems (Fit rg)
variable {a:Act}{Q:Exit->Act->World->Prop}{Z:Oper}{w:World}
theorem XL{a b:MapEntry}:∀{l:List MapEntry},l.Pairwise (fun x y=>x.key≠y.key)->a∈l->b∈l->a.key=b.key->a=b
 |[],_,h,_,_=>by cases h
 |c::l,h,ha,hb,e=>by
  obtain⟨k,m⟩:=List.pairwise_cons.1 h;rcases List.mem_cons.1 ha with d|d<;>rcases List.mem_cons.1 hb with j|j
  ·rw[d,j]
  ·exact absurd (d▸e) (k b j)
  ·exact absurd (j▸e).symm (k a d)
  ·exact XL m d j e
def wG(G:SG)(L:Nat->SV)(p:Nat)(F:FS)(B:FS)(k:Int)(ok:Bool):Prop:=ok=true->Zl G L p F B k
theorem JN.looks{G:SG}{L:Nat->SV}{u:World}{b p:Nat}{n:Int}{F:FS}(h:JN G L u b n)(hF:JD G F)(R:p<=2000):∃(B:FS)(k:Int)(D:Bool),wG G L p F B k D/\∀m,m.heap[b]?=u.heap[b]?->(Instr.lookup 71 (.map (some b)) (.agg (MG p F).toArray) true).run Tryz.prog m=.ok (.tuple #[.agg (eL B k).toArray,.bool D]) m:=by
 obtain⟨N,c,r,o,Z,O⟩:=h;obtain⟨kl,x⟩:=iZ hF R;have Q:=((stamped_iff N c).1 o.stamped).2.2;rcases Maps.fit_look true qX (t:=71) (e:=242) Tryz.underlying71 (PK u) r o x with⟨S,l,_⟩|⟨C,y,z,s,S,_⟩
 ·refine⟨DC,0,false,(fun e=>by cases e),fun m A=>?_⟩
  rcases Maps.fit_look true qX (t:=71) (e:=242) Tryz.underlying71 (PK m) (A.trans r) o x with⟨a,_⟩|⟨q,_,j,d,_⟩
  ·exact a
  ·exact absurd d (l q j)
 ·obtain⟨U,Y,B,k,E,X,I⟩:=O C z
  refine⟨B,k,true,(fun _=>?_),fun m A=>?_⟩
  ·rw[s]at E
   obtain⟨q,J⟩:=tY (Value.agg.inj E);have K:p=U:=AB;have M:=hF.eq I.1 J;rw[K,M];exact I
  ·rcases Maps.fit_look true qX (t:=71) (e:=242) Tryz.underlying71 (PK m) (A.trans r) o x with⟨_,l,_⟩|⟨q,_,j,d,a,_⟩
   ·exact absurd s (l C z)
   ·rw[XL Q j z (d.trans s.symm),X]at a
    exact a
theorem iE:(#[Vi 0,Vi 0,.bool false,Vi 0,Vi 0,Vi 0,Vi 0,Vi 0,.bool false,Vi 0,Vi 0,Vi 0,Vi 0,Vi 0,.bool false,Vi 0,Vi 0,Vi 0,Vi 0,Vi 0,.bool false,Vi 0,Vi 0,Vi 0,Vi 0,Vi 0,.bool false,Vi 0,Vi 0,Vi 0,Vi 0,Vi 0,.bool false,Vi 0,Vi 0,Vi 0,Vi 0,Vi 0,.bool false,Vi 0,Vi 0,Vi 0,Vi 0,Vi 0,.bool false,Vi 0,Vi 0,Vi 0,Vi 0,Vi 0,Vi 0]:Array Value)=(MG 0 DC).toArray:=AV
theorem Yn:(#[Vi 0,.bool false,Vi 0,Vi 0,Vi 0,Vi 0,Vi 0,.bool false,Vi 0,Vi 0,Vi 0,Vi 0,Vi 0,.bool false,Vi 0,Vi 0,Vi 0,Vi 0,Vi 0,.bool false,Vi 0,Vi 0,Vi 0,Vi 0,Vi 0,.bool false,Vi 0,Vi 0,Vi 0,Vi 0,Vi 0,.bool false,Vi 0,Vi 0,Vi 0,Vi 0,Vi 0,.bool false,Vi 0,Vi 0,Vi 0,Vi 0,Vi 0,.bool false,Vi 0,Vi 0,Vi 0,Vi 0,Vi 0,Vi 0,Vi 0]:Array Value)=(eL DC 0).toArray:=AV
theorem Pk{R:Array Oper}{k:List Oper}(d:Z.guard=none)(e:TypeId)(x y:Operand)(p:Z.op=.store e x y)(b:Nat)(l j:List Value)(r:a.eval x=Vq b)(A:Array Value)(m:A=l.toArray)(s:a.eval y=.agg A)(n:(Tryz.prog.info? e).map (·.size)=some 51)(o:l.length=51/\∀v∈l,v.oneCell'=true)(q:Eg w b j)
 (h:∀c,Eg c b l->Ft b w c->c.heap.size=w.heap.size->Hid (wpList Tryz.prog R Q k (a.put Z.dst undef) c)):wpList Tryz.prog R Q (Z::k) a w:=QD d e x y p b l j r A m s n o q h
theorem Px{R:Array Oper}{k:List Oper}(c:Z.guard=none)(x y:Operand)(j:Z.op=.build 240 #[(0,x),(1,y)])(p:Int)(F:FS)(d e:Array Value)(hF:d=fA F)(b:e=(MG p F).toArray)(l:a.eval x=Vi p)(m:a.eval y=.agg d)
 (h:wpList Tryz.prog R Q k (a.put Z.dst (.agg e)) w):wpList Tryz.prog R Q (Z::k) a w:=by
 subst hF b;exact wpList_plain c fun K b=>Dr (Iq (vs:=#[(0,Vi p),(1,.agg (fA F))]) _ _ j (by simp[l,m]) (Yb p F w)) (b _ _ h)
theorem Tx(x y:Operand)(e:Z.op=.build 242 #[(0,x),(1,y)])(F:FS)(k:Int)(c b:Array Value)(hF:c=fA F)(d:b=(eL F k).toArray)(h:a.eval x=.agg c)(j:a.eval y=Vi k):(execOp a.eval Z).run Tryz.prog w=.ok (.value (.agg b)) w:=by
 subst hF d;exact Iq (vs:=#[(0,.agg (fA F)),(1,Vi k)]) _ _ e (by simp[h,j]) (YS F k w)
theorem ZP(x y:Operand)(b:Z.op=.lookup 71 x y true)(A B v:Value)(d:a.eval x=A)(e:a.eval y=B)(c:(Instr.lookup 71 A B true).run Tryz.prog w=.ok v w):(execOp a.eval Z).run Tryz.prog w=.ok (.value v) w:=by
 unfold execOp;simp only[b,d,e,Sem.run_bind,c,Result.andThen_ok,Sem.run_pure]
theorem ZI{j:World}{K:Act->World->Prop}(x y z:Operand)(b:Z.op=.mapUpdate 71 x y z)(A B C:Value)(d:a.eval x=A)(e:a.eval y=B)(k:a.eval z=C)(c:(Instr.mapUpdate 71 A B C).run Tryz.prog w=.ok () j)(h:K (a.put Z.dst undef) j):Z.wp Tryz.prog a w K Q:=by
 unfold Oper.wp execOp;simp only[b,d,e,k,Sem.run_bind,c,Result.andThen_ok,Sem.run_pure];exact h
theorem CS.updated{G:SG}{L:Nat->SV}{w0:World}{c b A M:Nat}{d:Int}{u Q:World}{r:Int}{n:Int}(h:CS G L w0 c b A M (d+1) u r)(e:0<=d)(a:JN G L Q b n)(j:n<=r-d)(f:Ft b u Q):CS G L w0 c b A M d Q r:=
 ⟨h.B.trans ⟨f.os,f.tape,f.output,f.size,fun k l=>f.block k (by have:=h.B.size;omega) (by have:=h.c2;omega)⟩,(f.block c h.lt h.ne).trans h.C,a.mono j,Ak.blk h.H (f.block A h.H.lt (by have:=h.hb;have:=h.c2;omega)),e,h.r0,h.r1,h.c1,h.c2,h.ne,h.hb⟩
end
section
open Go.RowKit Go.Deep
variable {r:Int}
section
variable{G:SG}{L:Nat->SV}{w0:World}{bC mb bH cH p:Nat}
theorem jW{F:FS}{a:CR}(i:JO G L p F r=a)(h:r=1000):a=.bad 10 (p:Int):=by rw[<-i,JO,if_pos AB]
theorem jh{F:FS}{a:CR}(i:JO G L p F r=a)(h:r<1000){f:Int}(b:He F (L p).cond=f)(c:¬f=0):a=.bad f (p:Int):=by rw[<-i,JO,if_neg AB,if_pos AB,b]
theorem tO{F:FS}{a:CR}(i:JO G L p F r=a)(h:r<1000)(b:He F (L p).cond=0):ET G (seg L (p+1) (p+1+(L p).thn.toNat)) ((p:Int)+1) F (r+1)=a:=by rw[<-i,JO,if_neg AB,if_neg AB]
theorem Yx(hs:1<=(L p).cond/\(L p).cond<=4)(hp:p<=2000)(a1:Option Addr)(k1 c1:Nat)(hy:Kq G L w0 bC mb bH cH (p+1) (p+1+(L p).thn.toNat) (.slice a1 k1 c1))(d:Int)(u:World)(F:FS)(FA:Array Value)(r:Int)(hF:FA=fA F)(hC:CS G L w0 bC mb bH cH d u r)(hG:JD G F):
 Ks 132 #[Vq bC,.agg #[Vi (p:Int),Vi (L p).cond,.slice a1 k1 c1],.agg FA] u (NS G L w0 bC mb bH cH d (JO G L p F r) u):=by
 have HF:=hxy hF;have HG:=hxy hG;have HS:=hxy hs;have HP:=hxy hp;have HY:Hid _:=hy;have j:Hid (0<=r/\r<=1000):=⟨hC.r0,hC.r1⟩
 obtain⟨J,aX⟩:∃x,x=fA DC:=⟨_,rfl⟩
 have O:=hxy aX;obtain⟨KA,aW⟩:∃x,x=(MG (p:Int) F).toArray:=⟨_,rfl⟩
 have HK:=hxy aW;obtain⟨RR,az⟩:=Au (JO G L p F r);rw[az];have aa:=hxy az;obtain⟨u1,a4,l1,aT⟩:=Qz hF (.cells #[Vi (p:Int),Vi (L p).cond,.slice a1 k1 c1] 160) hC;clear hs hp hy hF hG hC aX az aW;go_enter Tryz.func132,Tryz.ntmps132;go_upto_region 1 with fail;rw[BX,a4];have L1:=hxy l1;have C1:=hxy aT;clear a4 l1 aT;have x0:u1.cell? ⟨u.heap.size,0,none⟩=some (Vi (p:Int)):=(AJ L1.X 0).trans rfl;have xl:=Ba L1.X;go_wp2_with(first|(refine BI rfl (.tmp 5) rfl (u.heap.size+1) rfl F FA HF L1.F ?_)|(refine Px rfl (.tmp 16) (.tmp 17) rfl (p:Int) F FA KA HF HK rfl rfl ?_)|(refine Pk rfl _ (.tmp 8) (.tmp 18) rfl u1.heap.size (MG (p:Int) F) (MG 0 DC) rfl KA HK rfl Qy (Ws _ _) (by rw[iE];exact Eg.new _ (Ws _ _) _) ?_;intro u2 b c D));unfold Hid;have N:=C1.var L1 rfl c;have ap:=hxy b;have C2:=hxy N.1;have L2:=hxy N.2;have HQ:Hid (bC<u1.heap.size/\mb<u1.heap.size/\u.heap.size+1+1<u1.heap.size/\u1.heap.size<u2.heap.size):=⟨C1.lt,C1.M.lt,L1.lt,b.2.2.lt⟩
 clear b c D N C1 L1 x0 xl;generalize u1.heap.size=q8 at *;obtain⟨E,k,ok,a0,m⟩:=C2.M.looks HG HP;have au:=hxy a0;obtain⟨EA,ay⟩:∃x,x=(eL E k).toArray:=⟨_,rfl⟩
 have aI:=hxy ay;rw[<-ay,<-show KA=(MG (p:Int) F).toArray from HK.out]at m;have am:Hid _:=m;clear a0 ay m;go_wp2_with fail;go_cut [9,10](fun s9 bf wx=>∃(q:Nat),s9=Vq q/\bf=.bool ok/\Eg wx q (eL E k)/\Bw u2 wx/\u2.heap.size<=q)
 case first=>
  have k2:Cb u2 bC 2 (.map (some mb)):=fun a h=>(C2.below h).cells.2.2.1
  refine wp_region_held_drew (S:=fun a=>Bw u2 a) AV BJ.drew (fun _=>?_);refine EX [0,1,2,3] ?_;refine Cj 4 (.agg KA) rfl (fun a hw=>OV (.tmp 8) rfl q8 rfl (MG (p:Int) F) KA HK (ap.below hw)) ?_;refine Cn ?_;refine Cj 5 (.tuple #[.agg EA,.bool ok]) rfl (fun a hw=>ZP (.tmp 23) (.tmp 24) rfl _ _ _ rfl rfl (am a (hw.block _ C2.M.lt))) ?_;refine Cn ?_;refine EX [6,7,8] ?_;have o:Bw u2 u2.drew:=BJ.drew;generalize u2.drew=t0 at o⊢;refine AO 9 rfl (fun Y n=>?_);go_simp;rw[Yn];have aC:=Eg.new t0 (Xm DC 0) 242;obtain⟨t1,a3,aY⟩:∃y,t0.alloc (.cells (eL DC 0).toArray 242)=y/\Bw t0 y:=⟨_,rfl,Ai⟩
  rw[a3]at aC⊢;have aj:=o.trans (aY.mono o.size);refine n.out _ _ aj (fun _=>?_);clear n Y;refine Cn ?_;refine AO 10 rfl (fun Y n=>?_);refine IE AV ?_;refine Eg.store _ (.tmp 9) (.tmp 26) rfl t0.heap.size (eL E k) (eL DC 0) rfl EA aI rfl jN (Xm _ _) aC ?_;intro t2 b c D;have hq:=o.size;have bd:=aj.size;have aw:Bw u2 t2:=aj.trans ⟨c.os,c.tape,c.output,c.size,fun k hk=>c.block k AB AB⟩;refine n.out _ _ aw (fun _=>?_);clear n Y;try simp only[Act.put,List.getElem_toArray,List.getElem_cons_zero,List.getElem_cons_succ]
  refine AU 11 ?_;refine wpAnyH_done AV ?_ _;have A:Hid (Eg t2 t0.heap.size (eL E k)/\Bw u2 t2/\u2.heap.size<=t0.heap.size):=⟨b,aw,hq⟩
  clear b c D aj aw hq bd aC a3 aY k2;go_wp2_with fail;go_meet;exact⟨t0.heap.size,rfl,rfl,A⟩
 case rest=>
 obtain⟨q9,rfl,rfl,b,Q,hq⟩:=hcut;have C3:=hxy (C2.below Q);have L3:=hxy (L2.below Q);have aK:=hxy (ap.below Q);have U:=hxy b;have aR:Hid (u2.heap.size<=q9/\q9<wc.heap.size):=⟨hq,b.2.2.lt⟩
 clear b Q hq C2 L2 ap;generalize wc=u3 at *;by_cases af:ok=true/\r+k<=1000
 ·obtain⟨rfl,aF⟩:=af
  have HM:Hid (Zl G L p F E k):=au.out rfl;have bn:=HM.2.2.1;have a2:=j.1;have e1:decide (r+k<=1000)=true:=by simp[aF]
  have hw:IntKind.i64.wrap (r+k)=r+k:=by rw[IntKind.wrap_i64]<;>omega
  obtain⟨_,g1,_,gl,gf⟩:=C3.cells;have Z:=U.count;have ai:=U.2.2.lt;go_wp2_with fail;go_quiet(fail);go_upto_region 4 with fail;clear g1 gl gf Z ai;have ab:Bw u3 (u3.drewN nq):=below_drewN BJ _;generalize u3.drewN nq=u4 at ab⊢;have C4:=hxy (C3.below ab);have L4:=hxy (L3.below ab);have an:=hxy (U.below ab);clear ab;have g1:Cb u4 bC 1 (Vi r):=fun a h=>(C4.below h).cells.2.1
  have Z:Cb u4 q9 50 (Vi k):=fun a h=>(an.below h).count
  refine BH (T:=fun a=>Bw u4 a) (s:=9) AV BJ.drew (fun hHeld=>?_);refine NU [0,1,2,3,4,5,6] ?_;refine Bt 7 ?_;refine BR 8 ?_;have ac:Bw u4 u4.drew:=BJ.drew;generalize u4.drew=u5 at ac⊢;have C5:=hxy (C4.below ac);have L5:=hxy (L4.below ac);have aH:=hxy (an.below ac);clear hHeld g1 Z ac C4 L4 an;obtain⟨_,g1,_,gl,gf⟩:=C5.cells;refine BD rfl AV AV (fun Y n=>?_);go_simp;refine n.out _ _ ?_;clear n Y g1 gl gf;have C6:Hid (CS G L w0 bC mb bH cH d (u5.setCell (Va bC 1) (Vi (r+k))) (r+k)):=C5.count AB aF;have ae:Ft bC u5 (u5.setCell (Va bC 1) (Vi (r+k))):=(Ft.refl _ _).set _ _;have aE:Kc bC mb u5 (u5.setCell (Va bC 1) (Vi (r+k))):=(Kc.refl _ _ _).ft ae (Or.inr (Or.inl rfl));have L6:=hxy (L5.kc aE);have a8:Hid (Eg (u5.setCell (Va bC 1) (Vi (r+k))) q9 (eL E k)):=aH.kc aE (by have:=aR.out;have:=HQ.out;omega) (by have:=aR.out;have:=HQ.out;omega);clear ae aE C5 L5 aH;generalize u5.setCell (Va bC 1) (Vi (r+k))=u6 at *;obtain⟨FB,aV⟩:∃x,x=fA E:=⟨_,rfl⟩
  have ag:=hxy aV;clear aV;go_wp2_with(first|(refine BI rfl (.tmp 48) rfl q9 rfl E FB ag a8.facts ?_)|(refine Aq rfl (.tmp 6) (.tmp 49) rfl (u.heap.size+1+1) E DC rfl FB ag rfl L6.R ?_;intro I b c D));unfold Hid;have A:Hid (BS I (u.heap.size+1+1) E/\Ft (u.heap.size+1+1) u6 I):=⟨b,c⟩
  clear b c D;go_wp2;refine mY (.tuple #[.agg FB,.nilIface]) (Am rfl _ _ (u.heap.size+1+1) _ _ rfl rfl (A.1.var ag)) ?_;rw[show FB=fA E from ag.out];exact L6.ok A.2 (aa.symm.trans (HM.2.2.2.2 r j.1 aF)) HM.2.1 C6
 have aQ:=hxy af;go_upto_region 3 with fail;go_cut [38](fun bh wx=>bh=.bool false/\Bw u3 wx)
 case first=>
  obtain⟨_,g1,_,gl,gf⟩:=C3.cells;have Z:=U.count;have ai:=U.2.2.lt;cases ok with
  |false=>
   clear af;go_wp2_with fail;go_quiet(fail);clear g1 gl gf Z ai;go_wp2_with fail;go_meet;exact⟨rfl,below_drewN BJ _⟩
  |true=>
   have bm:1000<r+k:=Int.not_le.1 (fun h=>aQ.out ⟨rfl,h⟩);have a2:=j.1;have al:=j.2;by_cases bb:k<=100000
   ·have e1:decide (r+k<=1000)=false:=by simp;omega
    clear af;go_wp2_with fail;go_quiet(fail);clear g1 gl gf Z ai;go_wp2_with fail;go_meet;exact⟨rfl,below_drewN BJ _⟩
   ·exact absurd (au rfl).2.2.2.1 bb
 case rest=>
 obtain⟨rfl,Q⟩:=hcut;have C4:=hxy (C3.below Q);have L4:=hxy (L3.below Q);have aM:=hxy (aK.below Q);clear Q af C3 L3 aK U aQ au am aI;generalize wc=u4 at *;obtain⟨_,g1,_,gl,gf⟩:=C4.cells;have S4:=Ba L4.X;by_cases hr:r=1000
 ·have ba:=hxy hr
  have e1:(r==1000)=true:=by simp[hr]
  clear hr;go_upto_region 7 with fail;clear g1 gl gf;have j0:∀a,Ft (u.heap.size+1+1) u4 a->a.cell? ⟨u.heap.size,0,none⟩=some (Vi (p:Int)):=fun a h=>(AJ ((h.block _ S4 AB).trans L4.X) 0).trans rfl
  have ZR:=hxy L4.R;refine wp_region_held_drew (S:=fun a=>Ft (u.heap.size+1+1) u4 a) AV (Ft.refl _ _).drew (fun _=>?_);refine Cj 0 (.agg J) rfl (fun a _=>Em rfl J O) ?_;refine Cn ?_;refine EX [1,2,3,4] ?_;refine AO 5 rfl (fun Y n=>?_);refine IE AV ?_;refine EG (.tmp 6) (.tmp 55) rfl (u.heap.size+1+1) DC DC rfl J O rfl (BS.below ZR BJ.drew) ?_;intro I b c D;have l:Ft (u.heap.size+1+1) u4 I:=(Ft.refl _ _).drew.trans c
  refine n.out _ _ l (fun _=>?_)
  clear n Y
  try simp only[Act.put,List.getElem_toArray,List.getElem_cons_zero,List.getElem_cons_succ]
  refine AU 6 ?_
  refine wpAnyH_done AV ?_ _
  have A:Hid (BS I (u.heap.size+1+1) DC/\Ft (u.heap.size+1+1) u4 I):=⟨b,l⟩
  clear b c D l
  go_wp2
  refine mY (.tuple #[.agg J,.iface 83 (.agg #[Vi 10,Vi (p:Int)])]) (Am rfl _ _ (u.heap.size+1+1) _ _ rfl rfl (A.1.var O)) ?_
  rw[show J=fA DC from O.out]
  exact L4.bad A.2 (jW aa ba) (.flaw _ _)
 have al:r<1000:=(by have:=j.out;omega:r<1000)
 have a2:=j.1
 have e1:(r==1000)=false:=by simp[hr]
 have bp:IntKind.i64.wrap (r+1)=r+1:=by rw[IntKind.wrap_i64]<;>omega
 clear hr
 go_upto_region 10 with fail
 clear g1 gl gf e1
 have ae:Ft bC u4 (u4.setCell (Va bC 1) (Vi (r+1))):=(Ft.refl _ _).set _ _
 have aD:Kc bC mb u4 (u4.setCell (Va bC 1) (Vi (r+1))):=(Kc.refl _ _ _).ft ae (Or.inr (Or.inl rfl))
 have C5:=hxy (C4.begin al)
 have a5:=hxy C4.d0
 have L5:=hxy (L4.kc aD)
 have aN:Hid (Eg (u4.setCell (Va bC 1) (Vi (r+1))) q8 (MG (p:Int) F)):=aM.kc aD (by have:=HQ.out;omega) (by have:=HQ.out;omega)
 clear ae aD C4 L4 aM S4
 generalize u4.setCell (Va bC 1) (Vi (r+1))=u5 at *
 have x1:u5.cell? ⟨u.heap.size,1,none⟩=some (Vi (L p).cond):=(AJ L5.X 1).trans rfl
 have S5:=Ba L5.X
 go_wp2_with(refine BI rfl (.tmp 5) rfl (u.heap.size+1) rfl F FA HF L5.F ?_)
 refine(Ms F FA HF _ HS.1 HS.2 _).mono ?_
 rintro e u6⟨rfl,Q⟩
 obtain⟨er,aB⟩:=Au (He F (L p).cond)
 rw[aB]
 have ao:=hxy aB
 have L6:=hxy (L5.below Q)
 have C6:=hxy (C5.below Q)
 have aO:=hxy (aN.below Q)
 clear aB Q x1 S5 L5 C5 aN
 have S6:=Ba L6.X
 by_cases h0:er=0
 rotate_left
 ·have e0:(er !=0)=true:=by simp[h0]
  have NE:=hxy h0
  clear h0
  go_upto_region 12 with fail
  have j0:∀a,Ft (u.heap.size+1+1) u6 a->a.cell? ⟨u.heap.size,0,none⟩=some (Vi (p:Int)):=fun a h=>(AJ ((h.block _ S6 AB).trans L6.X) 0).trans rfl
  have ZR:=hxy L6.R
  refine wp_region_held_drew (S:=fun a=>Ft (u.heap.size+1+1) u6 a) AV (Ft.refl _ _).drew (fun _=>?_)
  refine Cj 0 (.agg J) rfl (fun a _=>Em rfl J O) ?_
  refine Cn ?_
  refine EX [1,2,3,4,5] ?_
  refine AO 6 rfl (fun Y n=>?_)
  refine IE AV ?_
  refine EG (.tmp 6) (.tmp 77) rfl (u.heap.size+1+1) DC DC rfl J O rfl (BS.below ZR BJ.drew) ?_
  intro I b c D
  have l:Ft (u.heap.size+1+1) u6 I:=(Ft.refl _ _).drew.trans c
  refine n.out _ _ l (fun _=>?_)
  clear n Y
  try simp only[Act.put,List.getElem_toArray,List.getElem_cons_zero,List.getElem_cons_succ]
  refine AU 7 ?_
  refine wpAnyH_done AV ?_ _
  have A:Hid (BS I (u.heap.size+1+1) DC/\Ft (u.heap.size+1+1) u6 I):=⟨b,l⟩
  clear b c D l
  go_wp2
  refine mY (.tuple #[.agg J,.iface 83 (.agg #[Vi er,Vi (p:Int)])]) (Am rfl _ _ (u.heap.size+1+1) _ _ rfl rfl (A.1.var O)) ?_
  rw[show J=fA DC from O.out]
  exact L6.bad A.2 (jh aa al ao NE) (.flaw _ _)
 have e0:(er !=0)=false:=by simp[h0]
 have a6:=hxy (ao.trans h0)
 clear h0 ao
 have x2:u6.cell? ⟨u.heap.size,2,none⟩=some (.slice a1 k1 c1):=(AJ L6.X 2).trans rfl
 go_wp2_with(refine BI rfl (.tmp 5) rfl (u.heap.size+1) rfl F FA HF L6.F ?_)
 have aA:=HY.out
 unfold Kq at aA
 refine(aA (d+1) u6 F FA (r+1) HF C6 HG).mono ?_
 rintro e u7⟨k7,hx⟩
 rw[show((p+1:Nat):Int)=(p:Int)+1 from rfl,tO aa.out al a6.out]at hx
 have L7:=hxy (L6.kc k7)
 have ar:Hid (Eg u7 q8 (MG (p:Int) F)):=aO.kc k7 (by have:=HQ.out;omega) (by have:=HQ.out;omega)
 clear aA k7 x2 e0 L6 C6 S6 aO
 rcases hx with⟨B,r7,hR,gB,rfl,c7⟩|⟨bj,bi,v,hR,hE,rfl⟩
 rotate_left
 ·obtain⟨t,x,rfl⟩:=hE.shp
  have a7:=hxy hE
  have ah:=hxy hR
  clear hE hR
  rw[<-O.out]
  go_wp2_with(refine Aq rfl (.tmp 13) (.tmp 89) rfl u7.heap.size DC DC rfl J O rfl (by rw[BX];exact BS.fresh _) ?_;intro u8 b c D)
  unfold Hid
  have aZ:=L7.below (BJ.alloc BQ (.cells (CX (fun _=>zV) 0 0) 76))
  rw[BX]at c
  have L8:=hxy (aZ.ft c L7.lt)
  have S8:=Ba L8.X
  clear b c D aZ L7
  go_upto_region 15 with fail
  have j0:∀a,Ft (u.heap.size+1+1) u8 a->a.cell? ⟨u.heap.size,0,none⟩=some (Vi (p:Int)):=fun a h=>(AJ ((h.block _ S8 AB).trans L8.X) 0).trans rfl
  have ZR:=hxy L8.R
  refine wp_region_held_drew (S:=fun a=>Ft (u.heap.size+1+1) u8 a) AV (Ft.refl _ _).drew (fun _=>?_)
  refine Cj 0 (.agg J) rfl (fun a _=>Em rfl J O) ?_
  refine Cn ?_
  refine EX [1,2,3,4,5] ?_
  refine AO 6 rfl (fun Y n=>?_)
  refine IE AV ?_
  refine EG (.tmp 6) (.tmp 93) rfl (u.heap.size+1+1) DC DC rfl J O rfl (BS.below ZR BJ.drew) ?_
  intro I b c D
  have l:Ft (u.heap.size+1+1) u8 I:=(Ft.refl _ _).drew.trans c
  refine n.out _ _ l (fun _=>?_)
  clear n Y
  try simp only[Act.put,List.getElem_toArray,List.getElem_cons_zero,List.getElem_cons_succ]
  refine AU 7 ?_
  refine wpAnyH_done AV ?_ _
  have A:Hid (BS I (u.heap.size+1+1) DC/\Ft (u.heap.size+1+1) u8 I):=⟨b,l⟩
  clear b c D l
  go_wp2
  refine mY (.tuple #[.agg J,.iface 227 (.agg #[Vi (p:Int),.iface t x])]) (Am rfl _ _ (u.heap.size+1+1) _ _ rfl rfl (A.1.var O)) ?_
  rw[show J=fA DC from O.out]
  exact L8.bad A.2 ah (.within _ a7)
 have HB:=hxy gB
 have ah:=hxy hR
 have C7:=hxy c7
 obtain⟨BA,ax⟩:∃x,x=fA B:=⟨_,rfl⟩
 have K:=hxy ax
 rw[<-ax]
 clear gB hR c7 ax
 go_wp2_with(refine Aq rfl (.tmp 13) (.tmp 89) rfl u7.heap.size B DC rfl BA K rfl (by rw[BX];exact BS.fresh _) ?_;intro u8 b c D)
 unfold Hid
 have av:=hxy b
 have N:=C7.var L7 rfl c
 have C8:=hxy N.1
 have L8:=hxy N.2
 rw[BX]at c
 have bc:=ar.2.2.lt
 have aP:Hid (Eg u8 q8 (MG (p:Int) F)):=(ar.below Ai).ft c AB
 have aG:Hid (bC<u7.heap.size/\mb<u7.heap.size/\u.heap.size+1+1<u7.heap.size):=⟨C7.lt,C7.M.lt,L7.lt⟩
 clear b c D N C7 L7 ar bc
 generalize u7.heap.size=q7 at *
 go_upto_region 16 with fail
 obtain⟨z,bo⟩:=oD HG j.1 (aa.trans ah)
 have a9:=hxy z
 have bl:=z.2.2.2.1
 have bk:=z.2.2.1
 obtain⟨EB,aU⟩:∃x,x=(eL B (r7-r)).toArray:=⟨_,rfl⟩
 have aJ:=hxy aU
 have bq:IntKind.i64.wrap (r7-r)=r7-r:=by rw[IntKind.wrap_i64]<;>omega
 clear z aU
 go_cut [6,7,13](fun s6 s7 bg wx=>s6=.pointer (some ⟨u.heap.size+1+1,0,none⟩)/\s7=.nilIface/\bg=Vq q7/\BS wx q7 B/\Gr u bC mb (.cells #[Vi (p:Int),Vi (L p).cond,.slice a1 k1 c1] 160) F wx/\CS G L w0 bC mb bH cH d wx r7)
 case first=>
  have k2:∀a,Ft mb u8 a->a.cell? (Va bC 2)=some (.map (some mb)):=fun a h=>(AJ ((h.block _ C8.lt C8.ne).trans C8.C) 2).trans rfl
  have be:∀a,Ft mb u8 a->a.cell? (Va bC 1)=some (Vi r7):=fun a h=>(AJ ((h.block _ C8.lt C8.ne).trans C8.C) 1).trans rfl
  refine wp_region_held_drew (S:=fun a=>Ft mb u8 a) AV (Ft.refl _ _).drew (fun _=>?_)
  refine EX [0,1,2,3] ?_
  refine Cj 4 (.agg KA) rfl (fun a hw=>OV (.tmp 8) rfl q8 rfl (MG (p:Int) F) KA HK (aP.ft hw (by have:=HQ.out;omega))) ?_
  refine Cn ?_
  refine Cj 5 (.agg BA) rfl (fun a hw=>Pf (.tmp 13) rfl q7 rfl B BA K (av.ft hw (by have:=aG.out;omega))) ?_
  refine Cn ?_
  refine EX [6,7,8,9,10,11] ?_
  refine Cj 12 (.agg EB) rfl (fun a _=>Tx (.tmp 104) (.tmp 110) rfl B (r7-r) BA EB K aJ rfl rfl) ?_
  refine Cn ?_
  have o:Ft mb u8 u8.drew:=(Ft.refl _ _).drew
  have ak:Bw u8 u8.drew:=BJ.drew
  generalize u8.drew=t0 at o ak⊢
  have C9:=C8.below ak
  obtain⟨t1,m,hM,ad⟩:=C9.M.put (by have:=C9.r1;have:=C9.d0;omega) HP a9
  rw[<-show KA=(MG (p:Int) F).toArray from HK.out,<-show EB=(eL B (r7-r)).toArray from aJ.out]at m
  refine AO 13 rfl (fun Y n=>?_)
  refine IE AV ?_
  refine ZI (.tmp 102) (.tmp 103) (.tmp 111) rfl _ _ _ rfl rfl rfl m ?_
  refine n.out _ _ (o.trans ad) (fun _=>?_)
  clear n Y
  refine wpAnyH_done AV ?_ _
  have A:Hid (BS t1 q7 B/\Gr u bC mb (.cells #[Vi (p:Int),Vi (L p).cond,.slice a1 k1 c1] 160) F t1/\CS G L w0 bC mb bH cH d t1 r7):=⟨av.ft (o.trans ad) (by have:=aG.out;omega),(L8.below ak).kc ((Kc.refl _ _ _).ft ad (Or.inr (Or.inr rfl))),C9.updated a5 hM AB ad⟩
  clear m hM ad C9 o ak k2 be
  go_wp2_with fail
  go_meet
  exact⟨rfl,rfl,rfl,A⟩
 case rest=>
 obtain⟨rfl,rfl,rfl,b,hl,hc⟩:=hcut
 have aS:=hxy b
 have L9:=hxy hl
 have C9:=hxy hc
 clear b hl hc C8 L8 aP av
 generalize wc=u9 at *
 go_wp2_with(first|(refine BI rfl (.tmp 13) rfl q7 rfl B BA K aS ?_)|(refine Aq rfl (.tmp 6) (.tmp 112) rfl (u.heap.size+1+1) B DC rfl BA K rfl L9.R ?_;intro I b c D))
 unfold Hid
 have A:Hid (BS I (u.heap.size+1+1) B/\Ft (u.heap.size+1+1) u9 I):=⟨b,c⟩
 clear b c D
 go_wp2
 refine mY (.tuple #[.agg BA,.nilIface]) (Am rfl _ _ (u.heap.size+1+1) _ _ rfl rfl (A.1.var K)) ?_
 rw[show BA=fA B from K.out]
 exact L9.ok A.2 ah HB C9
end
section
variable{G:SG}{L:Nat->SV}{w0:World}{bC mb bH cH p:Nat}
theorem VX(hk:(L p).k=2)(hs:1<=(L p).cond/\(L p).cond<=4)(ht:0<=(L p).thn)(a1 a2:Option Addr)(k1 c1 k2 c2:Nat)(hy:Kq G L w0 bC mb bH cH (p+1) (p+1+(L p).thn.toNat) (.slice a1 k1 c1))(hn:Kq G L w0 bC mb bH cH (p+1+(L p).thn.toNat) (FV L p) (.slice a2 k2 c2))(d:Int)(u:World)(F:FS)(K:Array Value)(r:Int)(hF:K=fA F)(hC:CS G L w0 bC mb bH cH d u r)(hG:JD G F):
 Ks 93 #[Vq bC,.agg #[Vi (p:Int),Vi (L p).cond,.slice a1 k1 c1,.slice a2 k2 c2],.agg K] u (NS G L w0 bC mb bH cH d (Iw G L p F r) u):=by
 have HF:=hxy hF;have HG:=hxy hG;have HS:=hxy hs;have HY:Hid _:=hy;have HN:Hid _:=hn;obtain⟨m,ap⟩:∃x,x=fA DC:=⟨_,rfl⟩
 have n:=hxy ap;obtain⟨RR,ai⟩:=Au (Iw G L p F r);rw[ai];have hc:cmpL G (L p) (seg L (p+1) (p+1+(L p).thn.toNat)) (seg L (p+1+(L p).thn.toNat) (FV L p)) (p:Int) F r=RR:=by rw[<-ai,Iw,if_neg AB]
 have hl:(L p).thn=((seg L (p+1) (p+1+(L p).thn.toNat)).length:Int):=by rw[FH];omega
 have ar:¬(L p).k=3:=AB;have c:Hid (cmpL G (L p) (seg L (p+1) (p+1+(L p).thn.toNat)) (seg L (p+1+(L p).thn.toNat) (FV L p)) (p:Int) F r=RR/\¬(L p).k=3/\(L p).thn=((seg L (p+1) (p+1+(L p).thn.toNat)).length:Int)):=⟨hc,ar,hl⟩
 have HL:Hid ((p:Int)+1+((seg L (p+1) (p+1+(L p).thn.toNat)).length:Int)=((p+1+(L p).thn.toNat:Nat):Int)):=(by rw[FH];omega:(p:Int)+1+((seg L (p+1) (p+1+(L p).thn.toNat)).length:Int)=((p+1+(L p).thn.toNat:Nat):Int))
 obtain⟨u1,au,l1,z⟩:=Qz hF (.cells #[Vi (p:Int),Vi (L p).cond,.slice a1 k1 c1,.slice a2 k2 c2] 157) hC;clear hk hs ht hy hn hF hG hC ap ai hc hl ar;go_enter Tryz.func93,Tryz.ntmps93;go_upto_region 1 with fail;rw[BX,au];have L1:=hxy l1;have C1:=hxy z;clear au l1 z;have x1:u1.cell? ⟨u.heap.size,1,none⟩=some (Vi (L p).cond):=(AJ L1.X 1).trans rfl;have xl:=Ba L1.X;go_wp2_with(refine BI rfl (.tmp 5) rfl (u.heap.size+1) rfl F K HF L1.F ?_);refine(Ms F K HF _ HS.1 HS.2 _).mono ?_;rintro e u2⟨rfl,hb⟩;obtain⟨er,aj⟩:=Au (He F (L p).cond);rw[aj];have aa:=hxy aj;have N:=hxy (L1.below hb);have C2:=hxy (C1.below hb);clear aj hb x1 xl L1 C1;have S2:=Ba N.X;by_cases h0:er=0
 rotate_left
 ·have e0:(er !=0)=true:=by simp[h0]
  have NE:=hxy h0;clear h0;go_upto_region 3 with fail;have j0:∀l,Ft (u.heap.size+1+1) u2 l->l.cell? ⟨u.heap.size,0,none⟩=some (Vi (p:Int)):=fun l h=>(AJ ((h.block _ S2 AB).trans N.X) 0).trans rfl
  have ZR:=hxy N.R;refine wp_region_held_drew (S:=fun l=>Ft (u.heap.size+1+1) u2 l) AV (Ft.refl _ _).drew (fun _=>?_);refine Cj 0 (.agg m) rfl (fun l _=>Em rfl m n) ?_;refine Cn ?_;refine EX [1,2,3,4,5] ?_;refine AO 6 rfl (fun KK O=>?_);refine IE AV ?_;refine EG (.tmp 6) (.tmp 18) rfl (u.heap.size+1+1) DC DC rfl m n rfl (BS.below ZR BJ.drew) ?_;intro y j a s;have b:Ft (u.heap.size+1+1) u2 y:=(Ft.refl _ _).drew.trans a;refine O.out _ _ b (fun _=>?_);clear O KK;try simp only[Act.put,List.getElem_toArray,List.getElem_cons_zero,List.getElem_cons_succ]
  refine AU 7 ?_;refine wpAnyH_done AV ?_ _;have A:Hid (BS y (u.heap.size+1+1) DC/\Ft (u.heap.size+1+1) u2 y):=⟨j,b⟩
  clear j a s b;go_wp2;refine mY (.tuple #[.agg m,.iface 83 (.agg #[Vi er,Vi (p:Int)])]) (Am rfl _ _ (u.heap.size+1+1) _ _ rfl rfl (A.1.var n)) ?_;rw[show m=fA DC from n.out];exact N.bad A.2 (Tt c.1 c.2.1 aa NE) (.flaw _ _)
 have e0:(er !=0)=false:=by simp[h0]
 have Y:=hxy (aa.trans h0);clear h0 aa;have x2:u2.cell? ⟨u.heap.size,2,none⟩=some (.slice a1 k1 c1):=(AJ N.X 2).trans rfl;go_wp2_with(refine BI rfl (.tmp 5) rfl (u.heap.size+1) rfl F K HF N.F ?_);have o:=HY.out;unfold Kq at o;refine(o d u2 F K r HF C2 HG).mono ?_;rintro e u3⟨k3,hx⟩;rw[show((p+1:Nat):Int)=(p:Int)+1 from rfl]at hx;have L3:=hxy (N.kc k3);clear o k3 x2 e0 N C2 S2;rcases hx with⟨B,r3,C,gB,rfl,c3⟩|⟨aw,av,v,C,hE,rfl⟩;rotate_left
 ·obtain⟨t,x,rfl⟩:=hE.shp
  have Z:=hxy hE;have I:Hid _:=C;clear hE C;rw[<-n.out];go_wp2_with(refine Aq rfl (.tmp 9) (.tmp 30) rfl u3.heap.size DC DC rfl m n rfl (by rw[BX];exact BS.fresh _) ?_;intro u4 j a s);unfold Hid;have D:=L3.below (BJ.alloc BQ (.cells (CX (fun _=>zV) 0 0) 76))
  rw[BX]at a
  have E:=hxy (D.ft a L3.lt)
  have S4:=Ba E.X
  clear j a s D L3
  go_upto_region 6 with fail
  have j0:∀l,Ft (u.heap.size+1+1) u4 l->l.cell? ⟨u.heap.size,0,none⟩=some (Vi (p:Int)):=fun l h=>(AJ ((h.block _ S4 AB).trans E.X) 0).trans rfl
  have ZR:=hxy E.R
  refine wp_region_held_drew (S:=fun l=>Ft (u.heap.size+1+1) u4 l) AV (Ft.refl _ _).drew (fun _=>?_)
  refine Cj 0 (.agg m) rfl (fun l _=>Em rfl m n) ?_
  refine Cn ?_
  refine EX [1,2,3,4,5] ?_
  refine AO 6 rfl (fun KK O=>?_)
  refine IE AV ?_
  refine EG (.tmp 6) (.tmp 34) rfl (u.heap.size+1+1) DC DC rfl m n rfl (BS.below ZR BJ.drew) ?_
  intro y j a s
  have b:Ft (u.heap.size+1+1) u4 y:=(Ft.refl _ _).drew.trans a
  refine O.out _ _ b (fun _=>?_)
  clear O KK
  try simp only[Act.put,List.getElem_toArray,List.getElem_cons_zero,List.getElem_cons_succ]
  refine AU 7 ?_
  refine wpAnyH_done AV ?_ _
  have A:Hid (BS y (u.heap.size+1+1) DC/\Ft (u.heap.size+1+1) u4 y):=⟨j,b⟩
  clear j a s b
  go_wp2
  refine mY (.tuple #[.agg m,.iface 227 (.agg #[Vi (p:Int),.iface t x])]) (Am rfl _ _ (u.heap.size+1+1) _ _ rfl rfl (A.1.var n)) ?_
  rw[show m=fA DC from n.out]
  exact E.bad A.2 (Uz c.1 c.2.1 Y I) (.within _ Z)
 have HB:=hxy gB
 have I:Hid _:=C
 have C3:=hxy c3
 obtain⟨BA,af⟩:∃x,x=fA B:=⟨_,rfl⟩
 have Q:=hxy af
 rw[<-af]
 clear gB C c3 af
 go_wp2_with(refine Aq rfl (.tmp 9) (.tmp 30) rfl u3.heap.size B DC rfl BA Q rfl (by rw[BX];exact BS.fresh _) ?_;intro u4 j a s)
 unfold Hid
 have an:=hxy j
 have q:=C3.var L3 rfl a
 have C4:=hxy q.1
 have E:=hxy q.2
 have al:Hid (bC<u3.heap.size/\mb<u3.heap.size/\u.heap.size+1+1<u3.heap.size):=⟨C3.lt,C3.M.lt,L3.lt⟩
 clear j a s q C3 L3
 generalize u3.heap.size=q3 at *
 have x3:u4.cell? ⟨u.heap.size,3,none⟩=some (.slice a2 k2 c2):=(AJ E.X 3).trans rfl
 have S4:=Ba E.X
 go_wp2_with(refine BI rfl (.tmp 5) rfl (u.heap.size+1) rfl F K HF E.F ?_)
 have o:=HN.out
 unfold Kq at o
 refine(o d u4 F K r3 HF C4 HG).mono ?_
 rintro e u5⟨k5,hx⟩
 rw[<-HL.out]at hx
 have L5:=hxy (E.kc k5)
 have ac:Hid (BS u5 q3 B):=an.kc k5 (by have:=al.out;omega) (by have:=al.out;omega)
 clear o k5 x3 E C4 S4 an
 rcases hx with⟨J,r5,C,gB,rfl,c5⟩|⟨aw,av,v,C,hE,rfl⟩
 rotate_left
 ·obtain⟨t,x,rfl⟩:=hE.shp
  have Z:=hxy hE
  have ad:Hid _:=C
  clear hE C
  rw[<-n.out]
  go_wp2_with(refine Aq rfl (.tmp 11) (.tmp 46) rfl u5.heap.size DC DC rfl m n rfl (by rw[BX];exact BS.fresh _) ?_;intro u6 j a s)
  unfold Hid
  have D:=L5.below (BJ.alloc BQ (.cells (CX (fun _=>zV) 0 0) 76))
  rw[BX]at a
  have L6:=hxy (D.ft a L5.lt)
  have S6:=Ba L6.X
  clear j a s D L5
  go_upto_region 9 with fail
  have j0:∀l,Ft (u.heap.size+1+1) u6 l->l.cell? ⟨u.heap.size,0,none⟩=some (Vi (p:Int)):=fun l h=>(AJ ((h.block _ S6 AB).trans L6.X) 0).trans rfl
  have ZR:=hxy L6.R
  refine wp_region_held_drew (S:=fun l=>Ft (u.heap.size+1+1) u6 l) AV (Ft.refl _ _).drew (fun _=>?_)
  refine Cj 0 (.agg m) rfl (fun l _=>Em rfl m n) ?_
  refine Cn ?_
  refine EX [1,2,3,4,5] ?_
  refine AO 6 rfl (fun KK O=>?_)
  refine IE AV ?_
  refine EG (.tmp 6) (.tmp 50) rfl (u.heap.size+1+1) DC DC rfl m n rfl (BS.below ZR BJ.drew) ?_
  intro y j a s
  have b:Ft (u.heap.size+1+1) u6 y:=(Ft.refl _ _).drew.trans a
  refine O.out _ _ b (fun _=>?_)
  clear O KK
  try simp only[Act.put,List.getElem_toArray,List.getElem_cons_zero,List.getElem_cons_succ]
  refine AU 7 ?_
  refine wpAnyH_done AV ?_ _
  have A:Hid (BS y (u.heap.size+1+1) DC/\Ft (u.heap.size+1+1) u6 y):=⟨j,b⟩
  clear j a s b
  go_wp2
  refine mY (.tuple #[.agg m,.iface 227 (.agg #[Vi (p:Int),.iface t x])]) (Am rfl _ _ (u.heap.size+1+1) _ _ rfl rfl (A.1.var n)) ?_
  rw[show m=fA DC from n.out]
  exact L6.bad A.2 (TI c.1 c.2.1 c.2.2 Y I ad) (.within _ Z)
 have ak:=hxy gB
 have ad:Hid _:=C
 have C5:=hxy c5
 obtain⟨CA,ag⟩:∃x,x=fA J:=⟨_,rfl⟩
 have U:=hxy ag
 rw[<-ag]
 clear gB C c5 ag
 go_wp2_with(refine Aq rfl (.tmp 11) (.tmp 46) rfl u5.heap.size J DC rfl CA U rfl (by rw[BX];exact BS.fresh _) ?_;intro u6 j a s)
 unfold Hid
 have am:=hxy j
 have q:=C5.var L5 rfl a
 have C6:=hxy q.1
 have L6:=hxy q.2
 rw[BX]at a
 have ax:=Ak.lt ac
 have ao:Hid (BS u6 q3 B):=(ac.below Ai).ft a AB
 clear j a s q C5 L5 ac ax
 generalize u5.heap.size=q5 at *
 go_wp2_with(first|(refine BI rfl (.tmp 9) rfl q3 rfl B BA Q ao ?_)|(refine BI rfl (.tmp 11) rfl q5 rfl J CA U am ?_))
 obtain⟨_,_,_,z1,z⟩:=Co.1 HB.1
 obtain⟨_,_,_,z2,ae⟩:=Co.1 ak.1
 refine(KZ B J BA CA Q U z1.1 z1.2 z.1 z.2 z2.1 z2.2 ae.1 ae.2 _).mono ?_
 clear z1 z z2 ae
 rintro e u7⟨rfl,hb⟩
 obtain⟨JA,ah⟩:∃x,x=fA (jF B J):=⟨_,rfl⟩
 have ab:=hxy ah
 rw[<-ah]
 have L7:=hxy (L6.below hb)
 have C7:=hxy (C6.below hb)
 clear ah hb L6 C6 ao am
 go_wp2_with(refine Aq rfl (.tmp 6) (.tmp 58) rfl (u.heap.size+1+1) (jF B J) DC rfl JA ab rfl L7.R ?_;intro y j a s)
 unfold Hid
 have A:Hid (BS y (u.heap.size+1+1) (jF B J)/\Ft (u.heap.size+1+1) u7 y):=⟨j,a⟩
 clear j a s
 go_wp2
 refine mY (.tuple #[.agg JA,.nilIface]) (Am rfl _ _ (u.heap.size+1+1) _ _ rfl rfl (A.1.var ab)) ?_
 rw[show JA=fA (jF B J)from ab.out]
 exact L7.ok A.2 (ic c.1 c.2.1 c.2.2 Y I ad) (HB.join ak) C7
end
end
end Go.Proofs.YtcjnmdgomocpgaaGreatDoor
