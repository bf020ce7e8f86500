import Derived.Test.YtplnpgohdgialaaOfInlSpec
import Derived.Test.YtplnpgohdgialaaOfLowSpec
import Derived.Test.YtplnpgohdgialaaOfFlatAny
namespace Go.Proofs.Ytplnpgohdgialaa
open Go.RowKit
def NodeS(s:SV):Prop:=(s.k=2∨s.k=3)/\noIns s/\1<=s.cond/\s.cond<=4/\s.proc=0
structure BlkC(P:Nat->Int->List SV->Prop):Prop where
 nil:∀d,P d 0 []
 ins:∀{d:Nat}{z:Int}{s:SV}{xs:List SV},s.k=1->stOK s 0=true->P d z xs->P d (1+z) (s::xs)
 node:∀{d:Nat}{zx zy z:Int}{s:SV}{x y xs:List SV},NodeS s->(s.k=3->y=[])->P d zx x->P d zy y->P (d+1) z xs->P (d+1) (2+zx+zy+z) (s.put x.length y.length::(x++y++xs))
def Blk(d:Nat)(z:Int)(xs:List SV):Prop:=∀P,BlkC P->P d z xs
theorem Blk.nil(d:Nat):Blk d 0 []:=fun _ c=>c.nil d
theorem Blk.ins{d:Nat}{z:Int}{s:SV}{xs:List SV}(h1:s.k=1)(h2:stOK s 0=true)(h:Blk d z xs):Blk d (1+z) (s::xs):=fun P c=>c.ins h1 h2 (h P c)
theorem Blk.node{d:Nat}{zx zy z:Int}{s:SV}{x y xs:List SV}(h1:NodeS s)(h2:s.k=3->y=[])(a:Blk d zx x)(b:Blk d zy y)(k:Blk (d+1) z xs):Blk (d+1) (2+zx+zy+z) (s.put x.length y.length::(x++y++xs)):=fun P c=>c.node h1 h2 (a P c) (b P c) (k P c)
theorem Blk.ind{motive:(d:Nat)->(z:Int)->(xs:List SV)->Blk d z xs->Prop}(nil:∀d,motive d 0 [] (.nil d))
 (ins:∀{d:Nat}{z:Int}{s:SV}{xs:List SV}(h1:s.k=1)(h2:stOK s 0=true)(h:Blk d z xs),motive d z xs h->motive d (1+z) (s::xs) (.ins h1 h2 h))
 (node:∀{d:Nat}{zx zy z:Int}{s:SV}{x y xs:List SV}(h1:NodeS s)(h2:s.k=3->y=[])(a:Blk d zx x)(b:Blk d zy y)(k:Blk (d+1) z xs),motive d zx x a->motive d zy y b->motive (d+1) z xs k->motive (d+1) (2+zx+zy+z) (s.put x.length y.length::(x++y++xs)) (.node h1 h2 a b k))
 {d:Nat}{z:Int}{xs:List SV}(h:Blk d z xs):motive d z xs h:=
 (h (fun d z xs=>∃q:Blk d z xs,motive d z xs q) ⟨fun d=>⟨_,nil d⟩,fun h1 h2 h=>h.elim fun q m=>⟨_,ins h1 h2 q m⟩,fun h1 h2 a b k=>a.elim fun qa ma=>b.elim fun qb mb=>k.elim fun qk mk=>⟨_,node h1 h2 qa qb qk ma mb mk⟩⟩).elim fun _ m=>m
theorem Blk.zero{d:Nat}{z:Int}(h:Blk d z []):z=0:=h (fun _ z xs=>xs=[]->z=0) ⟨fun _ _=>rfl,fun _ _ _ e=>absurd e (List.cons_ne_nil _ _),fun _ _ _ _ _ e=>absurd e (List.cons_ne_nil _ _)⟩ rfl
theorem Blk.up{d:Nat}{z:Int}{xs:List SV}(h:Blk d z xs):Blk (d+1) z xs:=by
 induction h using Blk.ind with
 |nil d=>exact .nil _
 |ins h1 h2 _ ih=>exact .ins h1 h2 ih
 |node h1 h2 _ _ _ i1 i2 i3=>exact .node h1 h2 i1 i2 i3
theorem Blk.mono{d e:Nat}{z:Int}{xs:List SV}(h:Blk d z xs)(he:d<=e):Blk e z xs:=by
 obtain⟨k,rfl⟩:∃k,e=d+k:=⟨e-d,by omega⟩
 clear he;induction k with
 |zero=>exact h
 |succ k ih=>exact ih.up
theorem Blk.app{d:Nat}{z y:Int}{xs ys:List SV}(h:Blk d z xs)(k:Blk d y ys):Blk d (z+y) (xs++ys):=by
 induction h using Blk.ind with
 |nil d=>rw[Int.zero_add];exact k
 |ins h1 h2 _ ih=>rw[Int.add_assoc];exact .ins h1 h2 (ih k)
 |@node d zx zy z s x y' xs h1 h2 a b _ _ _ i3=>
  rw[Int.add_assoc,List.cons_append,List.append_assoc];exact .node h1 h2 a b (i3 k)
theorem Blk.pos{d:Nat}{z:Int}{xs:List SV}(h:Blk d z xs):(xs.length:Int)<=z:=by
 induction h using Blk.ind with
 |nil d=>exact Int.le_refl _
 |ins _ _ _ ih=>simp only[List.length_cons];omega
 |node _ _ _ _ _ i1 i2 i3=>simp only[List.length_cons,List.length_append];omega
theorem Blk.calls{d:Nat}{z:Int}{xs:List SV}(h:Blk d z xs):∀s∈xs,s.k≠4:=by
 induction h using Blk.ind with
 |nil d=>intro s hs;cases hs
 |ins h1 _ _ ih=>
  intro s hs;rcases List.mem_cons.1 hs with rfl|hs
  ·omega
  ·exact ih s hs
 |@node d zx zy z s x y xs h1 _ _ _ _ i1 i2 i3=>
  intro t ht;rcases List.mem_cons.1 ht with rfl|ht
  ·show s.k≠4
   have:=h1.1;omega
  ·rcases List.mem_append.1 ht with ht|ht
   ·rcases List.mem_append.1 ht with ht|ht
    ·exact i1 t ht
    ·exact i2 t ht
   ·exact i3 t ht
theorem stOK_node{s:SV}{x y:Nat}{procs:Int}(h:NodeS s)(e:s.k=3->y=0):stOK (s.put x y) procs=true:=by
 obtain⟨hk,h1,h2,h3,h4⟩:=h;have n1:noIns (s.put x y):=h1;unfold stOK;show(if s.k=1 then _ else if s.k=2 then _ else if s.k=3 then _ else _)=true;rcases hk with k|k
 ·rw[if_neg (by omega),if_pos k]
  exact decide_eq_true ⟨n1,h2,h3,Int.natCast_nonneg _,Int.natCast_nonneg _,h4⟩
 ·rw[if_neg (by omega),if_neg (by omega),if_pos k]
  exact decide_eq_true ⟨n1,h2,h3,Int.natCast_nonneg _,by rw[show(s.put x y).els=((y:Nat):Int)from rfl,e k];rfl,h4⟩
theorem stOK_ins{s:SV}{procs:Int}(k:s.k=1)(h:stOK s 0=true):stOK s procs=true:=by
 unfold stOK at h⊢;rw[if_pos k]at h⊢;exact h
def Emb(M:Nat->SV)(o:Nat)(xs:List SV):Prop:=∀j(h:j<xs.length),M (o+j)=xs[j]
theorem Emb.tail{M:Nat->SV}{o:Nat}{s:SV}{xs:List SV}(h:Emb M o (s::xs)):M o=s/\Emb M (o+1) xs:=
 ⟨h 0 (by simp),fun j hj=>by have:=h (j+1) (by simpa using hj);simp only[List.getElem_cons_succ]at this;rw[<-this];congr 1;omega⟩
theorem Emb.app{M:Nat->SV}{o:Nat}{xs ys:List SV}(h:Emb M o (xs++ys)):Emb M o xs/\Emb M (o+xs.length) ys:=
 ⟨fun j hj=>by have:=h j (by simp;omega);rw[this,List.getElem_append_left hj],
  fun j hj=>by have:=h (xs.length+j) (by simp;omega);rw[Nat.add_assoc,this,List.getElem_append_right (by omega)];congr 1;omega⟩
theorem Blk.chk{d:Nat}{z:Int}{xs:List SV}(h:Blk d z xs):∀(M:Nat->SV)(me procs deep depth:Int)(o te:Nat),Emb M o xs->te=o+xs.length->((chk M me procs deep o te depth).1=0∨(chk M me procs deep o te depth).1=4)/\(depth+d<=deep->(chk M me procs deep o te depth).1=0):=by
 induction h using Blk.ind with
 |nil d=>intro M me procs deep depth o te _ ht;rw[chk_end (by simp at ht;omega)];exact⟨Or.inl rfl,fun _=>rfl⟩
 |@ins d z s xs h1 h2 _ ih=>
  intro M me procs deep depth o te he ht;obtain⟨e0,e1⟩:=he.tail;simp only[List.length_cons]at ht;have q:stOK (M o) procs=true:=by rw[e0];exact stOK_ins h1 h2
  have hp:=st_plain q;have k1:(M o).k=1:=by rw[e0];exact h1
  have t0:(M o).thn.toNat=0:=by rw[(hp.1 (Or.inl k1)).1];rfl
  have l0:(M o).els.toNat=0:=by rw[(hp.1 (Or.inl k1)).2];rfl
  have r:=ih M me procs deep depth (o+1) te e1 (by omega);rw[chk_then (by omega) (by rw[q];decide) (by omega) (by omega) (by omega),t0,l0,Nat.add_zero,Nat.add_zero,chk_end (by omega),if_neg (by simp),if_neg (by simp)];exact r
 |@node d zx zy z s x y xs h1 h2 _ _ _ i1 i2 i3=>
  intro M me procs deep depth o te he ht;obtain⟨e0,e1⟩:=he.tail;obtain⟨e2,e3⟩:=e1.app;obtain⟨e4,e5⟩:=e2.app;simp only[List.length_cons,List.length_append]at ht e3;have q:stOK (M o) procs=true:=by rw[e0];exact stOK_node h1 (fun k=>by rw[h2 k];rfl)
  have t0:(M o).thn.toNat=x.length:=by rw[e0];rfl
  have l0:(M o).els.toNat=y.length:=by rw[e0];rfl
  have hk:(M o).k=2∨(M o).k=3:=by rw[e0];exact h1.1
  by_cases hd:deep<=depth
  ·rw[chk_deep (by omega) (by rw[q];decide) (by omega) ⟨hk,hd⟩]
   exact⟨Or.inr rfl,fun hh=>by omega⟩
  rw[chk_then (by omega) (by rw[q];decide) (by omega) (by omega) (by omega),t0,l0];have r1:=i1 M me procs deep (depth+1) (o+1) (o+1+x.length) e4 rfl;have r2:=i2 M me procs deep (depth+1) (o+1+x.length) (o+1+x.length+y.length) e5 rfl;have r3:=i3 M me procs deep depth (o+1+x.length+y.length) te (by rw[Nat.add_assoc (o+1)];exact e3) (by omega);refine⟨?_,fun hh=>?_⟩
  ·split
   ·exact r1.1
   ·split
    ·exact r2.1
    ·exact r3.1
  ·rw[if_neg (by rw[r1.2 (by omega)];decide),if_neg (by rw[r2.2 (by omega)];decide)]
   exact r3.2 (by omega)
theorem Blk.size{d:Nat}{z:Int}{xs:List SV}(h:Blk d z xs):∀(M:Nat->SV)(Z:Nat->Int)(o:Nat),Emb M o xs->szTo M Z (o+xs.length)=szTo M Z o+z:=by
 induction h using Blk.ind with
 |nil d=>intro M Z o _;simp
 |@ins d z s xs h1 h2 _ ih=>
  intro M Z o he;obtain⟨e0,e1⟩:=he.tail;have:=ih M Z (o+1) e1;have s1:szTo M Z (o+1)=szTo M Z o+wI (M o) Z:=rfl;have hw:wI (M o) Z=1:=by rw[e0];unfold wI;rw[if_pos h1]
  simp only[List.length_cons];rw[show o+(xs.length+1)=o+1+xs.length by omega,this,s1,hw,Int.add_assoc]
 |@node d zx zy z s x y xs h1 h2 _ _ _ i1 i2 i3=>
  intro M Z o he;obtain⟨e0,e1⟩:=he.tail;obtain⟨e2,e3⟩:=e1.app;obtain⟨e4,e5⟩:=e2.app;have s1:szTo M Z (o+1)=szTo M Z o+wI (M o) Z:=rfl;have hw:wI (M o) Z=2:=by rw[e0];have:=h1.1;show(if s.k=1 then 1 else if s.k=4 then _ else 2)=2;rw[if_neg (show¬s.k=1 by omega),if_neg (show¬s.k=4 by omega)]
  have r1:=i1 M Z (o+1) e4;have r2:=i2 M Z (o+1+x.length) e5;have r3:=i3 M Z (o+1+(x++y).length) e3;simp only[List.length_cons,List.length_append]at r3⊢;rw[show o+(x.length+y.length+xs.length+1)=o+1+(x.length+y.length)+xs.length by omega,r3,show o+1+(x.length+y.length)=o+1+x.length+y.length by omega,r2,r1,s1,hw];omega
def InsG(m:Nat)(y:NV):Prop:=implIns y.op y.d y.a y.b y.imm y.h=true/\(jumpB y.op=true->y.imm<=(m:Int))
theorem InsG.mono{m n:Nat}{y:NV}(h:InsG m y)(hm:m<=n):InsG n y:=⟨h.1,fun j=>by have:=h.2 j;omega⟩
theorem jmp_good{op:Int}{t m:Nat}(ho:op=29∨op=30∨op=31∨op=32∨op=33)(ht:t<=m)(hm:m<=1999):InsG m (jmpV op (t:Int)):=by
 refine⟨?_,fun _=>by show(t:Int)<=m;omega⟩;have hi:inB (t:Int) 0 1999=true:=by unfold inB;simp;omega
 show implIns op 0 0 0 (t:Int) 0=true;rcases ho with rfl|rfl|rfl|rfl|rfl<;>(unfold implIns;rw[show∀k,bitB k 8=bitB k 8 from fun _=>rfl];simp only[show bitB 29 8=true by kernel_rfl,show bitB 30 8=true by kernel_rfl,show bitB 31 8=true by kernel_rfl,show bitB 32 8=true by kernel_rfl,show bitB 33 8=true by kernel_rfl,show bitB 29 1=false by kernel_rfl,show bitB 30 1=false by kernel_rfl,show bitB 31 1=false by kernel_rfl,show bitB 32 1=false by kernel_rfl,show bitB 33 1=false by kernel_rfl,show bitB 29 2=false by kernel_rfl,show bitB 30 2=false by kernel_rfl,show bitB 31 2=false by kernel_rfl,show bitB 32 2=false by kernel_rfl,show bitB 33 2=false by kernel_rfl,show bitB 29 4=false by kernel_rfl,show bitB 30 4=false by kernel_rfl,show bitB 31 4=false by kernel_rfl,show bitB 32 4=false by kernel_rfl,show bitB 33 4=false by kernel_rfl,show bitB 29 16=false by kernel_rfl,show bitB 30 16=false by kernel_rfl,show bitB 31 16=false by kernel_rfl,show bitB 32 16=false by kernel_rfl,show bitB 33 16=false by kernel_rfl,fieldB,immLo,immHi];simp;simp[inB];omega)
theorem notI_in(c:Int):notI c=29∨notI c=30∨notI c=31∨notI c=32∨notI c=33:=by unfold notI;(repeat' split)<;>omega
theorem Blk.low{d:Nat}{z:Int}{xs:List SV}(h:Blk d z xs):∀(M:Nat->SV)(at' o te m:Nat),Emb M o xs->te=o+xs.length->(at':Int)+z<=m->m<=1999->((lowB M at' o te).length:Int)=z/\∀y∈lowB M at' o te,InsG m y:=by
 induction h using Blk.ind with
 |nil d=>intro M at' o te m _ ht _ _;rw[lowB_end (by simp at ht;omega)];exact⟨rfl,fun y hy=>by cases hy⟩
 |@ins d z s xs h1 h2 hb ih=>
  intro M at' o te m he ht hz hm;obtain⟨e0,e1⟩:=he.tail;simp only[List.length_cons]at ht;have q:stOK (M o) 0=true:=by rw[e0];exact h2
  have hp:=st_plain q;have k1:(M o).k=1:=by rw[e0];exact h1
  have t0:(M o).thn.toNat=0:=by rw[(hp.1 (Or.inl k1)).1];rfl
  have l0:(M o).els.toNat=0:=by rw[(hp.1 (Or.inl k1)).2];rfl
  have r:=ih M (at'+1) (o+1) te m e1 (by omega) (by omega) hm;have e:=lowB_1 (L:=M) (at':=at') (i:=o) (te:=te) (by omega) (by omega) k1;simp only[t0,l0,Nat.add_zero]at e;rw[e];refine⟨by simp only[List.length_cons];omega,fun y hy=>?_⟩;rcases List.mem_cons.1 hy with rfl|hy
  ·have g:implIns (M o).op (M o).d (M o).a (M o).b (M o).imm (M o).h=true/\(M o).op<29:=by
    unfold stOK at q;rw[if_pos k1,Bool.and_eq_true]at q;exact⟨q.1,(of_decide_eq_true q.2).1⟩
   refine⟨g.1,fun j=>?_⟩;unfold jumpB at j;simp only[Bool.and_eq_true,decide_eq_true_eq]at j;have:(insV0 (M o)).op=(M o).op:=rfl;omega
  ·exact r.2 y hy
 |@node d zx zy z s x y xs h1 h2 bx by' bz i1 i2 i3=>
  intro M at' o te m he ht hz hm;obtain⟨e0,e1⟩:=he.tail;obtain⟨e2,e3⟩:=e1.app;obtain⟨e4,e5⟩:=e2.app;simp only[List.length_cons,List.length_append]at ht e3;have t0:(M o).thn.toNat=x.length:=by rw[e0];rfl
  have l0:(M o).els.toNat=y.length:=by rw[e0];rfl
  have zx0:=bx.pos;have zy0:=by'.pos;have zz0:=bz.pos;have r1:=i1 M (at'+1) (o+1) (o+1+x.length) m e4 rfl (by omega) hm;obtain⟨X,hX⟩:∃X,lowB M (at'+1) (o+1) (o+1+x.length)=X:=⟨_,rfl⟩
  rw[hX]at r1;by_cases k3:s.k=3
  ·have y0:=h2 k3
   subst y0;have hk3:(M o).k=3:=by rw[e0];exact k3
   have r3:=i3 M (at'+2+X.length) (o+1+x.length) te m (by simpa using e3) (by simp at ht;omega) (by omega) hm;have e:=lowB_3 (L:=M) (at':=at') (i:=o) (te:=te) (by omega) (by omega) hk3 (x:=X) (by rw[t0];exact hX);rw[t0,l0]at e;rw[e];have zy1:zy=0:=Blk.zero by'
   refine⟨by simp only[List.length_cons,List.length_append,List.length_nil,Nat.add_zero];omega,fun v hv=>?_⟩;rcases List.mem_cons.1 hv with rfl|hv
   ·exact jmp_good (notI_in _) (by omega) hm
   rcases List.mem_append.1 hv with hv|hv
   ·exact r1.2 v hv
   rcases List.mem_cons.1 hv with rfl|hv
   ·exact jmp_good (Or.inl rfl) (by omega) hm
   ·exact r3.2 v hv
  ·have hk2:(M o).k=2:=by rw[e0];show s.k=2;have:=h1.1;omega
   have r2:=i2 M (at'+2+X.length) (o+1+x.length) (o+1+x.length+y.length) m e5 rfl (by omega) hm;obtain⟨Y,hY⟩:∃Y,lowB M (at'+2+X.length) (o+1+x.length) (o+1+x.length+y.length)=Y:=⟨_,rfl⟩
   rw[hY]at r2;have r3:=i3 M (at'+2+X.length+Y.length) (o+1+x.length+y.length) te m (by rw[Nat.add_assoc (o+1)];exact e3) (by omega) (by omega) hm;have e:=lowB_2 (L:=M) (at':=at') (i:=o) (te:=te) (by omega) (by omega) hk2 (x:=X) (y:=Y) (by rw[t0];exact hX) (by rw[t0,l0];exact hY);rw[t0,l0]at e;rw[e];refine⟨by simp only[List.length_cons,List.length_append];omega,fun v hv=>?_⟩;rcases List.mem_cons.1 hv with rfl|hv
   ·exact jmp_good (notI_in _) (by omega) hm
   rcases List.mem_append.1 hv with hv|hv
   ·exact r1.2 v hv
   rcases List.mem_cons.1 hv with rfl|hv
   ·exact jmp_good (Or.inl rfl) (by omega) hm
   rcases List.mem_append.1 hv with hv|hv
   ·exact r2.2 v hv
   ·exact r3.2 v hv
section
variable{Pv:Nat->PV}{np:Nat}
theorem inl_blk(g:UGood Pv np){q:Nat}(hq:q<np)(hz:Zd Pv np q<2000)(hB:∀r,q<r->r<np->Zd Pv np r<2000->Blk (16*(np-r)) (Zd Pv np r) (Bdy Pv np r)):∀(m i te:Nat)(depth:Nat),te-i<=m->i<=te->te<=(Pv q).n->depth<=16->(chk (Pv q).L (q:Int) (np:Int) 16 i te (depth:Int)).1=0->Blk (16-depth+16*(np-q-1)) (szTo (Pv q).L (Zd Pv np) te-szTo (Pv q).L (Zd Pv np) i) (inlB (Bdy Pv np) (Pv q).L i te):=by
 intro m;induction m with
 |zero=>intro i te depth hm hi _ _ _;rw[inlB_end (by omega),show i=te by omega,Int.sub_self];exact .nil _
 |succ m ih=>
  intro i te depth hm hi hte hd h0;by_cases h:i<te
  rotate_left
  ·rw[inlB_end h,show i=te by omega,Int.sub_self];exact .nil _
  obtain⟨L,hL⟩:∃L,(Pv q).L=L:=⟨_,rfl⟩
  rw[hL]at h0 ih⊢;have hst:stOK (L i) np=true:=by
   cases e:stOK (L i) np with
   |true=>rfl
   |false=>rw[chk_bad h e]at h0;exact absurd h0 (by simp)
  have ns:¬stOK (L i) np=false:=by rw[hst];decide
  by_cases hs:i+1+(L i).thn.toNat+(L i).els.toNat<=te
  rotate_left
  ·rw[chk_shape h ns hs]at h0;exact absurd h0 (by simp)
  by_cases h3:((L i).k=2∨(L i).k=3)/\(16:Int)<=(depth:Int)
  ·rw[chk_deep h ns hs h3]at h0;exact absurd h0 (by simp)
  by_cases h4:(L i).k=4/\(L i).proc<=(q:Int)
  ·rw[chk_rec h ns hs h3 h4]at h0;exact absurd h0 (by simp)
  rw[chk_then h ns hs h3 h4]at h0;by_cases z1:(chk L (q:Int) (np:Int) 16 (i+1) (i+1+(L i).thn.toNat) ((depth:Int)+1)).1≠0
  ·rw[if_pos z1]at h0;exact absurd h0 z1
  rw[if_neg z1]at h0;by_cases z2:(chk L (q:Int) (np:Int) 16 (i+1+(L i).thn.toNat) (i+1+(L i).thn.toNat+(L i).els.toNat) ((depth:Int)+1)).1≠0
  ·rw[if_pos z2]at h0;exact absurd h0 z2
  rw[if_neg z2]at h0;have r3:=ih (i+1+(L i).thn.toNat+(L i).els.toNat) te depth (by omega) hs hte hd h0;have s1:szTo L (Zd Pv np) (i+1)=szTo L (Zd Pv np) i+wI (L i) (Zd Pv np):=rfl;have hp:=st_plain hst;by_cases k4:(L i).k=4
  ·have hc:=g.calls hq (show i<(Pv q).n by omega) (by rw[hL];exact k4)
   have hsm:=g.small hq hz (show i<(Pv q).n by omega) (by rw[hL];exact k4);rw[hL]at hc hsm;have b:=(hB _ hc.1 hc.2.1 hsm).mono (show 16*(np-(L i).proc.toNat)<=16-depth+16*(np-q-1)by omega);have hw:wI (L i) (Zd Pv np)=Zd Pv np (L i).proc.toNat:=by unfold wI;rw[if_neg (by omega),if_pos k4]
   have e1:i+1+(L i).thn.toNat+(L i).els.toNat=i+1:=by rw[(hp.1 (Or.inr k4)).1,(hp.1 (Or.inr k4)).2];simp
   rw[inlB_call h hs k4];rw[e1]at r3⊢;have:=b.app r3;rw[show szTo L (Zd Pv np) te-szTo L (Zd Pv np) i=Zd Pv np (L i).proc.toNat+(szTo L (Zd Pv np) te-szTo L (Zd Pv np) (i+1))by omega];exact this
  rw[inlB_node h hs k4];by_cases k1:(L i).k=1
  ·have e1:i+1+(L i).thn.toNat+(L i).els.toNat=i+1:=by rw[(hp.1 (Or.inl k1)).1,(hp.1 (Or.inl k1)).2];simp
   have t0:(L i).thn.toNat=0:=by rw[(hp.1 (Or.inl k1)).1];rfl
   have l0:(L i).els.toNat=0:=by rw[(hp.1 (Or.inl k1)).2];rfl
   have hw:wI (L i) (Zd Pv np)=1:=by unfold wI;rw[if_pos k1]
   rw[t0,l0,Nat.add_zero,Nat.add_zero,inlB_end (show¬i+1<i+1 by omega)];rw[e1]at r3;have hs0:(L i).put 0 0=L i:=by
    have a:=(hp.1 (Or.inl k1)).1;have b:=(hp.1 (Or.inl k1)).2;show{L i with thn:=((0:Nat):Int),els:=((0:Nat):Int)}=L i;cases hh:L i;rw[hh]at a b;simp at a b;simp[a,b]
   show Blk _ _ ((L i).put 0 0::([]++[]++_));rw[hs0];have st0:stOK (L i) 0=true:=by unfold stOK at hst⊢;rw[if_pos k1]at hst⊢;exact hst
   have:=Blk.ins k1 st0 r3;rw[show szTo L (Zd Pv np) te-szTo L (Zd Pv np) i=1+(szTo L (Zd Pv np) te-szTo L (Zd Pv np) (i+1))by omega];exact this
  have hk:(L i).k=2∨(L i).k=3:=by have:=st_one hst;omega
  have hw:wI (L i) (Zd Pv np)=2:=by unfold wI;rw[if_neg k1,if_neg k4]
  have hd':depth<16:=by omega
  have r1:=ih (i+1) (i+1+(L i).thn.toNat) (depth+1) (by omega) (by omega) (by omega) (by omega) (by have:=z1;simp only[ne_eq,Decidable.not_not]at this;exact_mod_cast this);have r2:=ih (i+1+(L i).thn.toNat) (i+1+(L i).thn.toNat+(L i).els.toNat) (depth+1) (by omega) (by omega) (by omega) (by omega) (by have:=z2;simp only[ne_eq,Decidable.not_not]at this;exact_mod_cast this);have hn:NodeS (L i):=by
   have hb:=hst;unfold stOK at hb;rcases hk with k|k
   ·rw[if_neg (by omega),if_pos k]at hb
    have:=of_decide_eq_true hb;exact⟨Or.inl k,this.1,this.2.1,this.2.2.1,this.2.2.2.2.2⟩
   ·rw[if_neg (by omega),if_neg (by omega),if_pos k]at hb
    have:=of_decide_eq_true hb;exact⟨Or.inr k,this.1,this.2.1,this.2.2.1,this.2.2.2.2.2⟩
  rw[show 16-depth+16*(np-q-1)=16-(depth+1)+16*(np-q-1)+1 by omega]at r3⊢;have:=Blk.node hn (fun k=>inlB_end (by rw[hp.2 k];simp)) r1 r2 r3;rw[show szTo L (Zd Pv np) te-szTo L (Zd Pv np) i=2+(szTo L (Zd Pv np) (i+1+(L i).thn.toNat)-szTo L (Zd Pv np) (i+1))+(szTo L (Zd Pv np) (i+1+(L i).thn.toNat+(L i).els.toNat)-szTo L (Zd Pv np) (i+1+(L i).thn.toNat))+(szTo L (Zd Pv np) te-szTo L (Zd Pv np) (i+1+(L i).thn.toNat+(L i).els.toNat))by omega];exact this
theorem body_blk(g:UGood Pv np):∀(m q:Nat),np-q<=m->q<np->Zd Pv np q<2000->Blk (16*(np-q)) (Zd Pv np q) (Bdy Pv np q):=by
 intro m;induction m with
 |zero=>intro q h1 h2;omega
 |succ m ih=>
  intro q h1 hq hz;have:=inl_blk g hq hz (fun r hr hr2 hz2=>ih r (by omega) hr2 hz2) _ 0 (Pv q).n 0 (Nat.le_refl _) (Nat.zero_le _) (Nat.le_refl _) (by omega) (g.c q hq).2;rw[<-g.body hq,show szTo (Pv q).L (Zd Pv np) 0=0 from rfl,Int.sub_zero,<-g.sum hq hz,show 16-0+16*(np-q-1)=16*(np-q)by omega]at this;exact this
end
end Go.Proofs.Ytplnpgohdgialaa
