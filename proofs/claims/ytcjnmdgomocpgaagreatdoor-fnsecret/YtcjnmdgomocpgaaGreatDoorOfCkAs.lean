import Derived.Test.YtcjnmdgomocpgaaGreatDoorOfTransSpS
import Derived.Test.YtcjnmdgomocpgaaGreatDoorOfDrawFlat
import Derived.Stop.Asserts
set_option maxHeartbeats 4000000
set_option maxRecDepth 20000
namespace Go.Proofs.YtcjnmdgomocpgaaGreatDoor
section
open Go.RowKit
variable {a:Act}{e p:Int}{b d m n q t:Nat}{V:Nat->VV}{Z:Oper}{v x y z:Value}{Q j u w:World}
def fA(F:FS):Array Value:=CX F.V F.z F.c
def BS(u:World)(b:Nat)(F:FS):Prop:=Ak u b 50 (fF F.V F.z F.c)
def DC:FS:=⟨fun _=>zV,0,0⟩
theorem BS.new(w:World){FA:Array Value}{F:FS}(h:FA=fA F):BS (w.alloc (.cells FA 76)) w.heap.size F:=by
 subst h;exact Ak.newFirst w 50 _ _
theorem BS.below{F:FS}(h:BS u b F)(f:Below u.heap.size u Q):BS Q b F:=Ak.below h f h.lt
theorem Ak.blk{f:Nat->Value}(h:Ak u b n f)(e:Q.heap[b]?=u.heap[b]?):Ak Q b n f:=by
 have d:b<Q.heap.size:=by
  have c:=h.lt;rw[Array.getElem?_eq_getElem c]at e;exact(I8.1 e).1
 exact⟨d,fun i=>(World.frozen?_of_block (a:=Va b i) e).trans (h.free i),fun i j=>(World.cell?_of_block (a:=Va b i) e).trans (h.cell j)⟩
theorem BS.ft{F:FS}(h:BS u b F)(f:Ft q u Q)(a:b≠q):BS Q b F:=Ak.blk h (f.block b (Ak.lt h) a)
theorem BS.zc{F:FS}(h:BS u b F):u.cell? (Va b 48)=some (Vi F.z)/\u.cell? (Va b 49)=some (Vi F.c)/\b<u.heap.size:=⟨Ak.cell h (i:=48) AB,Ak.cell h (i:=49) AB,Ak.lt h⟩
theorem Ft.setsC:∀(a:List Value)(o:Nat){u:World},Ft q w u->Ft q w (u.setCells q o a)
 |[],_,_,h=>h
 |v::a,o,_,h=>Ft.setsC a (o+1) (Ft.set h o v)
theorem EG{K:Act->World->Prop}{Q:Exit->Act->World->Prop}(x y:Operand)(m:Z.op=.store 76 x y)(b:Nat)(F j:FS)(o:a.eval x=Vq b)(k:Array Value)(hF:k=fA F)(p:a.eval y=.agg k)(n:BS w b j)
 (h:∀d,BS d b F->Ft b w d->d.heap.size=w.heap.size->K (a.put Z.dst undef) d):Z.wp Tryz.prog a w K Q:=
 Gc x y m b F.V j.V F.z F.c j.z j.c o k hF p n fun d l _ e=>h d l (by rw[e];exact Ft.setsC _ _ (Ft.refl _ _)) (by rw[e];exact size_setCells ..)
theorem H6{R:Array Oper}{k:List Oper}{Q:Exit->Act->World->Prop}(e:Z.guard=none)(x y:Operand)(p:Z.op=.store 76 x y)(b:Nat)(F j:FS)(r:a.eval x=Vq b)(d:Array Value)(hF:d=fA F)(s:a.eval y=.agg d)(q:BS w b j)
 (h:∀c,BS c b F->Ft b w c->c.heap.size=w.heap.size->wpList Tryz.prog R Q k (a.put Z.dst undef) c):wpList Tryz.prog R Q (Z::k) a w:=
 wpList_plain e fun _ o=>EG x y p b F j r d hF s q fun c l m n=>o _ _ (h c l m n)
theorem BI{R:Array Oper}{k:List Oper}{Q:Exit->Act->World->Prop}(e:Z.guard=none)(x:Operand)(l:Z.op=.load 76 x)(b:Nat)(m:a.eval x=Vq b)(F:FS)(d:Array Value)(hF:d=fA F)(j:BS w b F)
 (h:wpList Tryz.prog R Q k (a.put Z.dst (.agg d)) w):wpList Tryz.prog R Q (Z::k) a w:=Bn e x l b m F.V F.z F.c d hF j h
theorem Pf(x:Operand)(e:Z.op=.load 76 x)(b:Nat)(h:a.eval x=Vq b)(F:FS)(c:Array Value)(hF:c=fA F)(d:BS w b F):(execOp a.eval Z).run Tryz.prog w=.ok (.value (.agg c)) w:=by
 subst hF;exact Dx _ x e b 0 h (WA d)
theorem Em(c:Z.op=.build 76 #[])(b:Array Value)(hF:b=fA DC):(execOp a.eval Z).run Tryz.prog w=.ok (.value (.agg b)) w:=by
 subst hF;unfold fA DC;dsimp only;exact Iq (vs:=#[]) _ _ c AX (OI w)
theorem BS.var{F:FS}(h:BS u b F){FA:Array Value}(hF:FA=fA F):(loadVar 76 ⟨b,0,none⟩).run Tryz.prog u=.ok (.agg FA) u:=by
 subst hF;exact Ei h
structure Kc(b m:Nat)(w w':World):Prop where
 os:w'.os=w.os
 tape:w'.tape=w.tape
 output:w'.output=w.output
 size:w.heap.size<=w'.heap.size
 block:∀k,k<w.heap.size->k≠b->k≠m->w'.heap[k]?=w.heap[k]?
theorem Kc.refl(b m:Nat)(w:World):Kc b m w w:=⟨rfl,rfl,rfl,BQ,fun _ _ _ _=>rfl⟩
theorem Kc.trans{v:World}(h:Kc b m u v)(k:Kc b m v w):Kc b m u w:=
 ⟨k.os.trans h.os,k.tape.trans h.tape,k.output.trans h.output,Nat.le_trans h.size k.size,fun i a c d=>(k.block i (Ey a h.size) c d).trans (h.block i a c d)⟩
theorem Kc.of_below(h:Below w.heap.size w j):Kc b m w j:=⟨h.os,h.tape,h.output,h.size,fun k a _ _=>h.block k a⟩
theorem Kc.ft(h:Kc b m u w)(f:Ft q w j)(e:u.heap.size<=q∨q=b∨q=m):Kc b m u j:=
 ⟨f.os.trans h.os,f.tape.trans h.tape,f.output.trans h.output,Nat.le_trans h.size f.size,fun k a c d=>(f.block k (Ey a h.size) AB).trans (h.block k a c d)⟩
theorem Kc.belowB{B:Nat}{C:World}(h:Kc b m w j)(a:Below B C w)(l:B<=w.heap.size)(c:B<=b)(d:B<=m):Below B C j:=
 a.trans ⟨h.os,h.tape,h.output,h.size,fun k e=>h.block k AB AB AB⟩
theorem BS.kc{F:FS}(h:BS u q F)(f:Kc b m u Q)(a:q≠b)(c:q≠m):BS Q q F:=Ak.blk h (f.block q (Ak.lt h) a c)
structure yJ(P:Value->Int->Int->Prop):Prop where
 flaw:∀e a:Int,P (.iface 83 (.agg #[Vi e,Vi a])) e a
 within:∀(p:Int){v:Value}{e a:Int},P v e a->P (.iface 227 (.agg #[Vi p,v])) e a
def Fg(v:Value)(e a:Int):Prop:=∀P,yJ P->P v e a
theorem Fg.flaw(e a:Int):Fg (.iface 83 (.agg #[Vi e,Vi a])) e a:=fun _ c=>c.flaw e a
theorem Fg.within(p:Int){a:Int}(h:Fg v e a):Fg (.iface 227 (.agg #[Vi p,v])) e a:=fun P c=>c.within p (h P c)
theorem Fg.inv{a:Int}(h:Fg v e a):v=.iface 83 (.agg #[Vi e,Vi a])∨∃p x,v=.iface 227 (.agg #[Vi p,x])/\Fg x e a:=
 (h (fun v e a=>Fg v e a/\(v=.iface 83 (.agg #[Vi e,Vi a])∨∃p x,v=.iface 227 (.agg #[Vi p,x])/\Fg x e a)) ⟨fun e a=>⟨.flaw e a,.inl rfl⟩,fun p _ _ _ h=>⟨.within p h.1,.inr ⟨p,_,rfl,h.1⟩⟩⟩).2
theorem Fg.shp{a:Int}(h:Fg v e a):∃t x,v=.iface t x:=by
 rcases h.inv with rfl|⟨p,x,rfl,_⟩<;>exact⟨_,_,rfl⟩
theorem Xr:laidOutB Tryz.prog=true:=AV
theorem qX:Maps.Keyed Tryz.prog 240:=
 Maps.Keyed.of_law (deep_law_laid Xr (m:=5) AB (of_decide_eq_true AV) AV AV)
theorem xW:Maps.Keyed Tryz.prog 74:=
 Maps.Keyed.of_law (deep_law_laid Xr (m:=3) AB (of_decide_eq_true AV) AV AV)
theorem fC:Tryz.prog.cellsOf 2=1:=AV
theorem uJ:Tryz.prog.cellsOf 4=1:=AV
theorem rA:Tryz.prog.cellsOf 47=6:=AV
theorem VF:Tryz.prog.cellsOf 74=48:=AV
theorem XG:Tryz.prog.cellsOf 76=50:=AV
theorem kI:Tryz.prog.cellsOf 240=51:=AV
def Rg(x:Int):Prop:= -9000000000000000000<=x/\x<=9000000000000000000
theorem yA{x:Int}(h:Rg x):(Lit.int .i64 x).wf=true:=by
 unfold Rg at h;have a:IntKind.i64.min= -9223372036854775808:=AV;have b:IntKind.i64.max=9223372036854775807:=AV;unfold Lit.wf;dsimp only;rw[a,b,Bool.and_eq_true,decide_eq_true_eq,decide_eq_true_eq];omega
theorem GY{x:Int}(h:Rg x):∃l,Tryz.prog.keyLits (d+1) 2 [.int .i64 x]=some l:=by
 refine⟨[.int .i64 x],?_⟩;unfold Program.keyLits;rw[Tryz.underlying2];simp[yA h]
theorem Y3{x:Bool}:∃l,Tryz.prog.keyLits (d+1) 4 [.bool x]=some l:=by
 refine⟨[.bool x],?_⟩;unfold Program.keyLits;rw[Tryz.underlying4]
def WL(v:VV):Prop:=Rg v.k/\Rg v.m/\Rg v.h/\Rg v.lo/\Rg v.hi
theorem WL.of{v:VV}(h:GV v n)(a:n<=8):WL v:=by
 unfold WL Rg;rcases h with h|h<;>omega
theorem iP{v:VV}(h:WL v):∃l,Tryz.prog.keyLits (d+2) 47 [Vi v.k,.bool v.s,Vi v.m,Vi v.h,Vi v.lo,Vi v.hi]=some l:=by
 obtain⟨o,p,q,r,u⟩:=h;obtain⟨y,a⟩:=GY (d:=d) o;obtain⟨z,b⟩:=Y3 (d:=d) (x:=v.s);obtain⟨A,c⟩:=GY (d:=d) p;obtain⟨B,e⟩:=GY (d:=d) q;obtain⟨C,j⟩:=GY (d:=d) r;obtain⟨D,n⟩:=GY (d:=d) u;refine⟨[y,z,A,B,C,D].flatten,?_⟩;unfold Program.keyLits;rw[Tryz.underlying47];simp[rA,fC,uJ,a,b,c,e,j,n]
theorem VZ(V:Nat->VV)(i:Nat)(b:i<8):((first 48 (vF V)).drop (i*6)).take 6=[Vi (V i).k,.bool (V i).s,Vi (V i).m,Vi (V i).h,Vi (V i).lo,Vi (V i).hi]:=by
 have a:i=0∨i=1∨i=2∨i=3∨i=4∨i=5∨i=6∨i=7:=AB;rcases a with rfl|rfl|rfl|rfl|rfl|rfl|rfl|rfl<;>rfl
theorem mapM_some{α β:Type}{f:α->Option β}:∀l:List α,(∀x∈l,∃y,f x=some y)->∃c,l.mapM f=some c
 |[],_=>⟨[],AX⟩
 |a::l,h=>by
  obtain⟨y,e⟩:=h a AX;obtain⟨c,b⟩:=mapM_some l (fun x d=>h x (by simp[d]));exact⟨y::c,by simp[List.mapM_cons,e,b]⟩
theorem Qe(h:∀i,i<8->WL (V i)):∃l,Tryz.prog.keyLits (d+3) 74 (first 48 (vF V))=some l:=by
 obtain⟨c,b⟩:=mapM_some (f:=fun i=>Tryz.prog.keyLits (d+2) 47 (((first 48 (vF V)).drop (i*6)).take 6)) (List.range 8) (fun i a=>by
  have a:=List.mem_range.1 a;try dsimp only
  rw[VZ V i a];exact iP (h i a))
 refine⟨c.flatten,?_⟩;unfold Program.keyLits;rw[Tryz.underlying74];simp only[VF,rA,Aw,if_true];rw[b];rfl
theorem Vr(V:Nat->VV)(z c:Int):((first 50 (fF V z c)).drop 0).take 48=first 48 (vF V):=by rfl
theorem VO{F:FS}(h:∀i,i<8->WL (F.V i))(k:Rg F.z)(j:Rg F.c):∃l,Tryz.prog.keyLits (d+4) 76 (first 50 (fF F.V F.z F.c))=some l:=by
 obtain⟨m,a⟩:=Qe (d:=d) h;obtain⟨n,b⟩:=GY (d:=d+2) k;obtain⟨o,e⟩:=GY (d:=d+2) j;refine⟨[m,n,o].flatten,?_⟩;unfold Program.keyLits;rw[Tryz.underlying76];have p:((first 50 (fF F.V F.z F.c)).drop 0).take 48=first 48 (vF F.V):=Vr _ _ _
 have q:((first 50 (fF F.V F.z F.c)).drop 48).take 1=[Vi F.z]:=rfl;have r:((first 50 (fF F.V F.z F.c)).drop 49).take 1=[Vi F.c]:=rfl;simp only[XG,VF,fC,Aw,List.mapM_cons,List.mapM_nil,p,q,r,a,b,e];rw[if_pos ⟨trivial,AX⟩];rfl
def MG(p:Int)(F:FS):List Value:=Vi p::first 50 (fF F.V F.z F.c)
theorem Y0{F:FS}(h:∀i,i<8->WL (F.V i))(k:Rg F.z)(e:Rg F.c)(j:Rg p):∃l,Tryz.prog.keyLits (d+5) 240 (MG p F)=some l:=by
 obtain⟨m,a⟩:=GY (d:=d+3) j;obtain⟨n,b⟩:=VO (d:=d) h k e;refine⟨[m,n].flatten,?_⟩;unfold Program.keyLits;rw[Tryz.underlying240];have o:((MG p F).drop 0).take 1=[Vi p]:=rfl;have q:((MG p F).drop 1).take 50=first 50 (fF F.V F.z F.c):=rfl
 have r:(MG p F).length=51:=rfl;simp only[XG,kI,fC,r,List.mapM_cons,List.mapM_nil,o,q,a,b];rw[if_pos ⟨trivial,AX⟩];rfl
theorem PN:∃d,Tryz.prog.types.size+1=d+5:=⟨Tryz.prog.types.size-4,by have:4<=Tryz.prog.types.size:=of_decide_eq_true AV;omega⟩
theorem TR(h:∀i,i<8->WL (V i)):∃l,keyOf Tryz.prog 74 (.agg (first 48 (vF V)).toArray)=some l:=by
 obtain⟨d,a⟩:=PN;obtain⟨l,e⟩:=Qe (d:=d+2) h;refine⟨.string (keyBytes l),?_⟩;unfold keyOf;rw[Tryz.underlying74];dsimp only;rw[if_pos,a]
 ·show Option.map _ (Tryz.prog.keyLits (d+5) 74 (first 48 (vF V)))=_
  rw[show d+5=d+2+3 from rfl,e];rfl
 ·rw[Bool.and_eq_true]
  exact⟨AV,by simp only[Value.formed,Tryz.underlying74];rw[VF];rfl⟩
theorem ji{F:FS}(h:∀i,i<8->WL (F.V i))(k:Rg F.z)(a:Rg F.c)(j:Rg p):∃l,keyOf Tryz.prog 240 (.agg (MG p F).toArray)=some l:=by
 obtain⟨d,b⟩:=PN;obtain⟨l,e⟩:=Y0 (d:=d) h k a j;refine⟨.string (keyBytes l),?_⟩;unfold keyOf;rw[Tryz.underlying240];dsimp only;rw[if_pos,b]
 ·show Option.map _ (Tryz.prog.keyLits (d+5) 240 (MG p F))=_
  rw[e];rfl
 ·rw[Bool.and_eq_true]
  exact⟨AV,by simp only[Value.formed,Tryz.underlying240];rw[kI];rfl⟩
theorem Ri.rg{G:SG}{F:FS}(h:Ri G F):(∀i,i<8->WL (F.V i))/\Rg F.z/\Rg F.c:=by
 obtain⟨b,_,d,e,j⟩:=Co.1 h;exact⟨fun i a=>WL.of (d i a) (NY b),by unfold Rg;omega,by unfold Rg;omega⟩
theorem QU{f g:Nat->Value}(h:first n f=first n g):∀i,i<n->f i=g i:=fun i a=>by
 have e:=congrArg (fun l=>l[i]?) h;simpa[first,a]using e
theorem jd{U:Nat->VV}(h:∀i,i<48->vF V i=vF U i):∀i,i<8->V i=U i:=fun i J=>by
 have a:=h (i*6+0) AB;have b:=h (i*6+1) AB;have c:=h (i*6+2) AB;have d:=h (i*6+3) AB;have e:=h (i*6+4) AB;have j:=h (i*6+5) AB;rw[Bz V i _ AB,Bz U i _ AB]at a b c d e j;generalize V i=x at *;generalize U i=y at *;obtain⟨k,l,m,n,o,p⟩:=x;obtain⟨q,r,s,u,z,A⟩:=y;have B:k=q:=by injection a
 have C:l=r:=by injection b
 have D:m=s:=by injection c
 have E:n=u:=by injection d
 have F:o=z:=by injection e
 have I:p=A:=by injection j
 rw[B,C,D,E,F,I]
theorem tY{q:Int}{F B:FS}(h:(MG p F).toArray=(MG q B).toArray):p=q/\JI F B:=by
 have h:=congrArg Array.toList h;simp only[MG,List.cons.injEq,Value.int.injEq,true_and]at h;have e:=QU h.2;refine⟨h.1,?_,?_,jd fun i a=>?_⟩
 ·have:=e 48 AB;simpa[fF]using this
 ·have:=e 49 AB;simpa[fF]using this
 ·have:=e i AB
  simpa[fF,a]using this
theorem iW{U:Nat->VV}(h:∀i,i<8->WL (V i))(k:∀i,i<8->WL (U i))(w:World):∃r:Bool,(Op.equal 74 (.agg (first 48 (vF V)).toArray) (.agg (first 48 (vF U)).toArray)).run Tryz.prog w=.ok r w/\(r=true↔∀i,i<8->V i=U i):=by
 obtain⟨l,a⟩:=TR h;obtain⟨n,b⟩:=TR k;obtain⟨r,d,j⟩:=run_equal_deep (P:=Tryz.prog) w (m:=3) AB (k:=74) AV AV a b;refine⟨r,d,j.trans ⟨fun e=>?_,fun e=>?_⟩⟩
 ·rw[e]at a
  have:=xW.inj a b;have:=congrArg Array.toList (Value.agg.inj this);exact jd (QU (by simpa using this))
 ·have:first 48 (vF V)=first 48 (vF U):=by
   unfold first
   apply List.map_congr_left;intro i c;have c:=List.mem_range.1 c;unfold vF;rw[e (i/6) AB]
  rw[this,b]at a;exact(Option.some.inj a).symm
theorem Bp{o:Obj}(h:u.heap[q]?=some o):q<u.heap.size:=(I8.1 h).1
theorem Ac{o:Obj}(h:u.heap[q]?=some o)(f:Below u.heap.size u Q):Q.heap[q]?=some o:=(f.block q (Bp h)).trans h
theorem Be{E:Option Nat}{o:Obj}(h:u.heap[q]?=some o)(a:u.grownBy Q E)(b:E≠some q):Q.heap[q]?=some o:=(a.block q (Bp h) (fun e=>b e.symm)).trans h
theorem Ar{B:Nat}{e s E:Nat}{D:Value}{d:List Value}{I:Array Value}(n:u.heap[q]?=some (.cells I t))(l:u.ownsRow B e s D E d)(m:t≠e):D.ownBlock≠some q:=fun a=>by
 rcases l.2 with⟨b,_⟩|⟨g,h,j,b,_,c,_⟩
 ·rw[b]at a;cases a
 ·rw[b]at a
  have k:=Option.some.inj a;subst k;rw[n]at c;exact m (Obj.cells.inj (Option.some.inj c)).2.1
def V3(u:World)(b t:Nat)(x y z:Value):Prop:=u.heap[b]?=some (.cells #[x,y,z] t)
theorem V3.cells(h:V3 u b t x y z):u.cell? (Va b 0)=some x/\u.cell? (Va b 1)=some y/\u.cell? (Va b 2)=some z:=⟨(AJ h 0).trans rfl,(AJ h 1).trans rfl,(AJ h 2).trans rfl⟩
theorem V3.lt(h:V3 u b t x y z):b<u.heap.size:=Bp h
theorem V3.free(h:V3 u b t x y z):∀i,u.frozen? (Va b i)=false:=CP h
theorem V3.below(h:V3 u b t x y z)(f:Below u.heap.size u Q):V3 Q b t x y z:=Ac h f
theorem V3.put(h:V3 u b t x y z)(a:b≠q)(j:Nat)(v:Value):V3 (u.setCell (Va q j) v) b t x y z:=Ao h a j v
theorem V3.set(h:V3 u b t x y z)(a c d:Value):V3 (((u.setCell (Va b 0) a).setCell (Va b 1) c).setCell (Va b 2) d) b t a c d:=BG (BG (BG h 0 a) 1 c) 2 d
theorem V3.set0(h:V3 u b t x y z)(a:Value):V3 (u.setCell (Va b 0) a) b t a y z:=BG h 0 a
theorem V3.new(u:World)(t:Nat)(x y z:Value):V3 (u.alloc (.cells #[x,y,z] t)) u.heap.size t x y z:=Az u _
theorem EP(a b:Int)(w:World):Ks 142 #[Vi a,Vi b] w fun e c=>e=.returned (Vi (MF a b))/\c=w:=by
 go_enter Tryz.func142,Tryz.ntmps142;go_wp2;all_goals(go_ret;refine⟨Ae ?_,rfl⟩;simp_all[MF])
theorem Ko(j:Option Addr)(n h:Nat)(V:Nat->VV)(z c cond:Int)(w:World):Ks 108 #[.agg #[.slice j n h,Vi z,Vi c],Vi cond] w fun e m=>e=.returned (Vi (He ⟨V,z,c⟩ cond))/\Below w.heap.size w m:=by
 by_cases d:3<=cond
 ·by_cases a:c=0
  ·rw[show He ⟨V,z,c⟩ cond=1 by simp[He,d,a]]
   subst a;go_enter Tryz.func108,Tryz.ntmps108;go_wp2;go_ret;exact⟨rfl,Ai⟩
  by_cases b:c=2
  ·rw[show He ⟨V,z,c⟩ cond=2 by simp[He,d,b]]
   subst b;clear a;go_enter Tryz.func108,Tryz.ntmps108;go_wp2;go_ret;exact⟨rfl,Ai⟩
  rw[show He ⟨V,z,c⟩ cond=0 by simp[He,d,a,b]];have k:(c==0)=false:=by simpa using a
  have l:(c==2)=false:=by simpa using b
  go_enter Tryz.func108,Tryz.ntmps108;go_wp2;go_ret;exact⟨rfl,Ai⟩
 ·by_cases a:z=0
  ·rw[show He ⟨V,z,c⟩ cond=1 by simp[He,d,a]]
   subst a;go_enter Tryz.func108,Tryz.ntmps108;go_wp2;go_ret;exact⟨rfl,Ai⟩
  by_cases b:z=2
  ·rw[show He ⟨V,z,c⟩ cond=2 by simp[He,d,b]]
   subst b;clear a;go_enter Tryz.func108,Tryz.ntmps108;go_wp2;go_ret;exact⟨rfl,Ai⟩
  rw[show He ⟨V,z,c⟩ cond=0 by simp[He,d,a,b]];have k:(z==0)=false:=by simpa using a
  have l:(z==2)=false:=by simpa using b
  go_enter Tryz.func108,Tryz.ntmps108;go_wp2;go_ret;exact⟨rfl,Ai⟩
def DV(err at':Int)(v:Value)(z c rounds:Int):Value:=.agg #[Vi err,Vi at',v,Vi z,Vi c,Vi rounds]
theorem II(c b a:Int)(w:World):Ks 65 #[Vi c,Vi b,Vi a] w fun e d=>e=.returned (DV c b (.slice none 0 0) 0 0 a)/\Below w.heap.size w d:=by
 go_enter Tryz.func65,Tryz.ntmps65;go_wp2;refine mY (DV c b (.slice none 0 0) 0 0 a) (by simp[results,Tryz.results65,go_sem,DV]) ⟨rfl,?_⟩;exact Ai
theorem Un(h:Ak u b (n*6) (vF V))(a:q<n):u.cell? (Va b (q*6))=some (Vi (V q).k)/\u.cell? (Va b (q*6+1))=some (.bool (V q).s)/\u.cell? (Va b (q*6+2))=some (Vi (V q).m)/\u.cell? (Va b (q*6+3))=some (Vi (V q).h)/\u.cell? (Va b (q*6+4))=some (Vi (V q).lo)/\u.cell? (Va b (q*6+5))=some (Vi (V q).hi):=
 ⟨(h.cell (i:=q*6+0) AB).trans (congrArg some (Bz V q 0 AB)),(h.cell (i:=q*6+1) AB).trans (congrArg some (Bz V q 1 AB)),(h.cell (i:=q*6+2) AB).trans (congrArg some (Bz V q 2 AB)),(h.cell (i:=q*6+3) AB).trans (congrArg some (Bz V q 3 AB)),(h.cell (i:=q*6+4) AB).trans (congrArg some (Bz V q 4 AB)),(h.cell (i:=q*6+5) AB).trans (congrArg some (Bz V q 5 AB))⟩
def vK(F G:FS)(w:World)(e:Ending)(w':World):Prop:=∃r:Bool,e=.returned (.bool r)/\(r=true->JI F G)/\(r=false->¬JI F G)/\Below w.heap.size w w'
theorem Vz(Z cA:Nat)(V:Nat->VV)(z c:Int)(bB cB:Nat)(U:Nat->VV)(s A:Int)(w:World)(hA:Ak w Z (8*6) (vF V))(hB:Ak w bB (8*6) (vF U)):
 Ks 141 #[.agg #[Vs Z 8 cA,Vi z,Vi c],.agg #[Vs bB 8 cB,Vi s,Vi A]] w (vK ⟨V,z,c⟩ ⟨U,s,A⟩ w):=by
 have HA:=hxy hA;have HB:=hxy hB;clear hA hB;go_enter Tryz.func141,Tryz.ntmps141;go_upto_region 1 with fail;obtain⟨u,hu,pa,pb,bu⟩:∃y,(w.alloc (.cells #[Vs Z 8 cA,Vi z,Vi c] 31)).alloc (.cells #[Vs bB 8 cB,Vi s,Vi A] 31)=y/\V3 y w.heap.size 31 (Vs Z 8 cA) (Vi z) (Vi c)/\V3 y (w.heap.size+1) 31 (Vs bB 8 cB) (Vi s) (Vi A)/\Bw w y:=by
  refine⟨_,rfl,(V3.new _ _ _ _ _).below Ai,?_,(Ai).alloc AX _⟩;have:=V3.new (w.alloc (.cells #[Vs Z 8 cA,Vi z,Vi c] 31)) 31 (Vs bB 8 cB) (Vi s) (Vi A);simpa using this
 rw[hu];have RA:=hxy (HA.below bu HA.lt);have RB:=hxy (HB.below bu HB.lt);have l:=hxy bu;obtain⟨o,a1,a2⟩:=pa.cells;obtain⟨q,b1,b2⟩:=pb.cells;have p:=pa.lt;have r:=pb.lt;have PA:=hxy pa;have PB:=hxy pb;clear hu pa pb bu;obtain⟨ba,ab⟩:=Au w.heap.size;obtain⟨bb,ac⟩:=Au (w.heap.size+1);rw[ac]at PB q b1 b2 r⊢;rw[ab]at PA o a1 a2 p⊢;by_cases Q:z=s
 rotate_left
 ·have f0:(z !=s)=true:=by simp[Q]
  have EZ:=hxy Q;clear Q;go_wp2;go_ret;exact⟨false,rfl,fun h=>absurd h Ad,fun _ h=>EZ.out h.1,l⟩
 by_cases X:c=A
 rotate_left
 ·have f0:(z !=s)=false:=by simp[Q]
  have f1:(c !=A)=true:=by simp[X]
  have EC:=hxy X;clear Q X;go_wp2;go_ret;exact⟨false,rfl,fun h=>absurd h Ad,fun _ h=>EC.out h.2.1,l⟩
 have f0:(z !=s)=false:=by simp[Q]
 have f1:(c !=A)=false:=by simp[X]
 have EZ:Hid (z=s/\c=A):=⟨Q,X⟩
 clear Q X;go_wp2;clear o a1 a2 q b1 b2 p r;go_loopw [5](fun i wr=>∃k:Nat,k<=8/\i=Vi k/\(∀j,j<k->V j=U j)/\Bw u wr)(fun i _=>8-(intOf i).toNat)
 case atStart=>exact⟨0,AB,rfl,fun j hj=>by omega,Below.refl _ _⟩
 case round=>
  obtain⟨k,hk,rfl,aa,b⟩:=hrel;have Y:=hxy aa;clear aa;have m:=hxy b;by_cases d:k<8
  ·obtain⟨o,_,_⟩:=(PA.below b).cells
   obtain⟨q,_,_⟩:=(PB.below b).cells;have p:=(PA.below b).lt;have r:=(PB.below b).lt;obtain⟨B,C,D,E,F,I⟩:=Un (RA.below b RA.lt) d;obtain⟨J,K,L,M,N,O⟩:=Un (RB.below b RB.lt) d;have R:=(RA.below b RA.lt).lt;have S:=(RB.below b RB.lt).lt;have ad:(k:Int)<8:=AB;clear b;obtain⟨x,hx⟩:∃y:VV,V k=y:=⟨_,rfl⟩
   obtain⟨y,hy⟩:∃y:VV,U k=y:=⟨_,rfl⟩
   rw[hx]at B C D E F I;rw[hy]at J K L M N O;obtain⟨x0,x1,x2,x3,x4,x5⟩:=x;obtain⟨y0,y1,y2,y3,y4,y5⟩:=y;dsimp only at B C D E F I J K L M N O;have a:Hid (V k=⟨x0,x1,x2,x3,x4,x5⟩/\U k=⟨y0,y1,y2,y3,y4,y5⟩):=⟨hx,hy⟩
   clear hx hy;by_cases e0:x0=y0
   rotate_left
   ·have f0:(x0==y0)=false:=by simpa using e0
    have n:=hxy e0;clear e0;go_wp2_with fail;go_quiet(fail);clear B C D E F I J K L M N O o q p r R S;go_wp2;go_ret;exact⟨false,rfl,fun h=>absurd h Ad,fun _ h=>n.out (by have:=h.2.2 k d;dsimp only at this;rw[a.1,a.2]at this;injection this),l.trans ((m.trans (below_drewN BJ _)).mono l.size)⟩
   subst e0;by_cases e1:x1=y1
   rotate_left
   ·have f1:(x1==y1)=false:=by simpa using e1
    have n:=hxy e1;clear e1;go_wp2_with fail;go_quiet(fail);clear B C D E F I J K L M N O o q p r R S;go_wp2;go_ret;exact⟨false,rfl,fun h=>absurd h Ad,fun _ h=>n.out (by have:=h.2.2 k d;dsimp only at this;rw[a.1,a.2]at this;injection this),l.trans ((m.trans (below_drewN BJ _)).mono l.size)⟩
   subst e1;by_cases e2:x2=y2
   rotate_left
   ·have f2:(x2==y2)=false:=by simpa using e2
    have n:=hxy e2;clear e2;go_wp2_with fail;go_quiet(fail);clear B C D E F I J K L M N O o q p r R S;go_wp2;go_ret;exact⟨false,rfl,fun h=>absurd h Ad,fun _ h=>n.out (by have:=h.2.2 k d;dsimp only at this;rw[a.1,a.2]at this;injection this),l.trans ((m.trans (below_drewN BJ _)).mono l.size)⟩
   subst e2;by_cases e3:x3=y3
   rotate_left
   ·have f3:(x3==y3)=false:=by simpa using e3
    have n:=hxy e3;clear e3;go_wp2_with fail;go_quiet(fail);clear B C D E F I J K L M N O o q p r R S;go_wp2;go_ret;exact⟨false,rfl,fun h=>absurd h Ad,fun _ h=>n.out (by have:=h.2.2 k d;dsimp only at this;rw[a.1,a.2]at this;injection this),l.trans ((m.trans (below_drewN BJ _)).mono l.size)⟩
   subst e3;by_cases e4:x4=y4
   rotate_left
   ·have f4:(x4==y4)=false:=by simpa using e4
    have n:=hxy e4;clear e4;go_wp2_with fail;go_quiet(fail);clear B C D E F I J K L M N O o q p r R S;go_wp2;go_ret;exact⟨false,rfl,fun h=>absurd h Ad,fun _ h=>n.out (by have:=h.2.2 k d;dsimp only at this;rw[a.1,a.2]at this;injection this),l.trans ((m.trans (below_drewN BJ _)).mono l.size)⟩
   subst e4;by_cases e5:x5=y5
   rotate_left
   ·have f5:(x5==y5)=false:=by simpa using e5
    have n:=hxy e5;clear e5;go_wp2_with fail;go_quiet(fail);clear B C D E F I J K L M N O o q p r R S;go_wp2;go_ret;exact⟨false,rfl,fun h=>absurd h Ad,fun _ h=>n.out (by have:=h.2.2 k d;dsimp only at this;rw[a.1,a.2]at this;injection this),l.trans ((m.trans (below_drewN BJ _)).mono l.size)⟩
   subst e5;go_wp2_with fail;go_quiet(fail);clear B C D E F I J K L M N O o q p r R S;go_wp2;go_roundw
   case rel=>exact⟨k+1,AB,by go_num,fun j hj=>(by
    by_cases e:j=k
    ·rw[e,a.1,a.2]
    ·exact Y j AB),m.trans (below_drewN BJ _)⟩
   case measure=>simp[intOf];omega
  ·go_wp2
   go_ret;exact⟨true,rfl,fun _=>⟨EZ.1,EZ.2,fun i hi=>Y.out i AB⟩,fun h=>absurd h Ad,l.trans (b.mono l.size)⟩
end
section
open Go.RowKit Go.Deep Go.Extern.Stop Go.Stop Go.Extern
theorem uX(t:Value)(w:World):Ks 27 #[.nilIface,t] w fun e a=>e=.returned (.bool false)/\a=w:=by
 go_enter Tryz.func27,Tryz.ntmps27;go_wp2;go_ret;exact⟨rfl,rfl⟩
theorem kr(t:Addr)(w:World):(ReflectliteValue.unpack (.iface 85 (.pointer (some t)))).run Tryz.prog w=.ok (.agg #[.pointer (some ⟨1,85,none⟩),Vq w.heap.size,.int .u64 150]) (w.alloc (.cells #[.pointer (some t)] 85)):=AV
theorem fq(a:Addr)(w:World):(ReflectliteValue.methodAny (ReflectliteValue.valueError "reflectlite.Value.Type" 0) (fun t _ _ _=>ReflectliteType.toType t) #[.agg #[.pointer (some ⟨1,85,none⟩),.pointer (some a),.int .u64 150]]).run Tryz.prog w=.ok (.iface 183 (.agg #[.pointer (some ⟨1,85,none⟩)])) w:=AV
theorem Zf(h:Value)(w:World):(Go.method 379 183 (.agg #[h]) "Kind").run Tryz.prog w=.ok (184,h) w:=AV
theorem je(w:World):((ReflectliteType.abiMethod fun t=>Functor.map (fun a:Nat=>Value.int IntKind.u8 (a:Int)) (Rtype.kind t)) #[.pointer (some ⟨1,85,none⟩)]).run Tryz.prog w=.ok (.int .u8 22) w:=AV
theorem Z8(w:World):((ReflectliteType.abiMethod fun t=>Functor.map (fun a:Nat=>Value.int IntKind.u8 (a:Int)) (Rtype.kind t)) #[.pointer (some ⟨1,83,none⟩)]).run Tryz.prog w=.ok (.int .u8 25) w:=AV
theorem Qr(a:Addr)(w:World):(ReflectliteValue.parts (.agg #[.pointer (some ⟨1,85,none⟩),.pointer (some a),.int .u64 150])).run Tryz.prog w=.ok (some (85,a,150)) w:=AV
theorem jQ(v:Value)(a:Value->Sem Value)(b:Array Value->Sem Value):@ReflectliteValue.method.match_2 (fun _=>Sem Value) #[v] a b=a v:=rfl
theorem jE(a p:Addr)(W:World)(b:W.cell? a=some (.pointer (some p))):(ReflectliteValue.method (ReflectliteValue.valueError "reflectlite.Value.IsNil" 0) ReflectliteValue.isNil #[.agg #[.pointer (some ⟨1,85,none⟩),.pointer (some a),.int .u64 150]]).run Tryz.prog W=.ok (.bool false) W:=by
 delta ReflectliteValue.method
 rw[jQ];simp only[Sem.run_bind,Qr,Result.andThen];simp[ReflectliteValue.isNil,loadVar,isAgg,underlying,Tryz.underlying85,b,Result.andThen]
theorem gU(h:Value)(w:World):(Go.method 379 183 (.agg #[h]) "Elem").run Tryz.prog w=.ok (197,.agg #[h]) w:=AV
theorem jP(h:Value)(w:World):(Go.method 379 183 (.agg #[h]) "Implements").run Tryz.prog w=.ok (198,.agg #[h]) w:=AV
theorem lQ(h:Value)(w:World):(Go.method 379 183 (.agg #[h]) "AssignableTo").run Tryz.prog w=.ok (195,.agg #[h]) w:=AV
theorem jK(w:World):(ReflectliteType.method ReflectliteType.elem #[.agg #[.pointer (some ⟨1,85,none⟩)]]).run Tryz.prog w=.ok (.iface 183 (.agg #[.pointer (some ⟨1,83,none⟩)])) w:=AV
theorem mQ(w:World):(ReflectliteType.relation "Implements" ReflectliteType.implements_ #[.agg #[.pointer (some ⟨1,83,none⟩)],.iface 183 (.agg #[.pointer (some ⟨1,78,none⟩)])]).run Tryz.prog w=.ok (.bool true) w:=AV
theorem lT(v:Value)(w:World):(ReflectliteType.typeOf #[.iface 83 v]).run Tryz.prog w=.ok (.iface 183 (.agg #[.pointer (some ⟨1,83,none⟩)])) w:=AV
theorem qG(v:Value)(w:World):(ReflectliteType.typeOf #[.iface 227 v]).run Tryz.prog w=.ok (.iface 183 (.agg #[.pointer (some ⟨1,227,none⟩)])) w:=AV
theorem qV(w:World):(ReflectliteType.relation "AssignableTo" ReflectliteType.assignableTo #[.agg #[.pointer (some ⟨1,83,none⟩)],.iface 183 (.agg #[.pointer (some ⟨1,83,none⟩)])]).run Tryz.prog w=.ok (.bool true) w:=AV
theorem oF(w:World):(ReflectliteType.relation "AssignableTo" ReflectliteType.assignableTo #[.agg #[.pointer (some ⟨1,227,none⟩)],.iface 183 (.agg #[.pointer (some ⟨1,83,none⟩)])]).run Tryz.prog w=.ok (.bool false) w:=AV
theorem qN(e a:Int)(w:World):(ReflectliteValue.unpack (.iface 83 (.agg #[Vi e,Vi a]))).run Tryz.prog w=.ok (.agg #[.pointer (some ⟨1,83,none⟩),Vq w.heap.size,.int .u64 153]) (w.alloc (.cells #[Vi e,Vi a] 83)):=AV
theorem ZO(w:World):(Rtype.elem? 85).run Tryz.prog w=.ok (some 83) w:=AV
theorem vN(p:Addr)(w:World):(ReflectliteValue.mk 83 p ReflectliteValue.flagAddr).run Tryz.prog w=.ok (.agg #[.pointer (some ⟨1,83,none⟩),.pointer (some p),.int .u64 409]) w:=AV
theorem iC(a p:Addr)(W:World)(b:W.cell? a=some (.pointer (some p))):(ReflectliteValue.method (ReflectliteValue.valueError "reflectlite.Value.Elem" 0) ReflectliteValue.elem #[.agg #[.pointer (some ⟨1,85,none⟩),.pointer (some a),.int .u64 150]]).run Tryz.prog W=.ok (.agg #[.pointer (some ⟨1,83,none⟩),.pointer (some p),.int .u64 409]) W:=by
 delta ReflectliteValue.method
 rw[jQ];simp only[Sem.run_bind,Qr,Result.andThen];simp[ReflectliteValue.elem,loadVar,isAgg,underlying,Tryz.underlying85,b,Result.andThen,ZO,vN]
theorem uy(v x:Value)(a:Value->Value->Sem Value)(b:Array Value->Sem Value):@ReflectliteValue.set.match_3 (fun _=>Sem Value) #[v,x] a b=a v x:=rfl
theorem ZH(a:Addr)(w:World):(ReflectliteValue.parts (.agg #[.pointer (some ⟨1,83,none⟩),.pointer (some a),.int .u64 409])).run Tryz.prog w=.ok (some (83,a,409)) w:=AV
theorem YN(a:Addr)(w:World):(ReflectliteValue.parts (.agg #[.pointer (some ⟨1,83,none⟩),.pointer (some a),.int .u64 153])).run Tryz.prog w=.ok (some (83,a,153)) w:=AV
theorem VN(w:World):(Rtype.directlyAssignable 83 83).run Tryz.prog w=.ok true w:=AV
theorem Qs:(Tryz.prog.info? 83).map (·.size)=some 2:=AV
theorem sO(t q:Nat)(e a:Int)(x y:Value)(W:World)(c:W.heap[q]?=some (.cells #[Vi e,Vi a] 83))(b:W.heap[t]?=some (.cells #[x,y] 83)):
 (ReflectliteValue.set #[.agg #[.pointer (some ⟨1,83,none⟩),Vq t,.int .u64 409],.agg #[.pointer (some ⟨1,83,none⟩),Vq q,.int .u64 153]]).run Tryz.prog W
   =.ok (.tuple #[]) ((W.setCell (Va t 0) (Vi e)).setCell (Va t 1) (Vi a)):=by
 have h:(loadVar 83 ⟨q,0,none⟩).run Tryz.prog W=.ok (.agg #[Vi e,Vi a]) W:=
  run_loadVar_mid W q 0 _ [Vi e,Vi a] _ (fun j v l=>by rw[Nat.zero_add,AJ c j];simpa using l) Tryz.underlying83 rfl Qs
 have k:(storeVar 83 ⟨t,0,none⟩ (.agg #[Vi e,Vi a])).run Tryz.prog W=.ok () ((W.setCell (Va t 0) (Vi e)).setCell (Va t 1) (Vi a)):=
  run_storeVar_mid W t 0 _ #[Vi e,Vi a] (fun j d=>by
   rw[Nat.zero_add,AJ b j];refine⟨?_,CP b j⟩;have:j<2:=d;match j,this with
   |0,_=>rfl
   |1,_=>rfl) Qs (by simp[Value.oneCell'])
 delta ReflectliteValue.set
 rw[uy];simp only[Sem.run_bind,ZH,YN,Result.andThen];simp[ReflectliteValue.flagAddr,h,Result.andThen,VN,k]
end
end Go.Proofs.YtcjnmdgomocpgaaGreatDoor
