import Derived.Test.YtkckomianknjdaaGreatOfCoreF
import Derived.Test.YtkckomianknjdaaGreatOfCoreCatch
import Derived.Test.YtkckomianknjdaaGreatOfCoreLoad
import Derived.Test.YtkckomianknjdaaGreatOfCoreSel
import Derived.Test.YtkckomianknjdaaGreatOfLen64
set_option maxHeartbeats 1000000
namespace Go.Proofs.YtkckomianknjdaaGreat
open Go.RowKit
variable {e r val:Int}{d:List Value}{B J b k l n:Nat}{v:Value}{W j w w':World}
def Two(W X w':World):Prop:=Below W.heap.size W w'∨Below W.heap.size X w'
theorem Two.cell{X:World}(h:Two W X j){p:Addr}(a:p.block<W.heap.size)(b:W.cell? p=some v)(c:X.cell? p=some v):j.cell? p=some v:=by
 rcases h with h|h
 ·exact(h.cell a).trans b
 ·exact(h.cell a).trans c
theorem Bf{k:Int}{p:Addr}(h:p.block=J->p.off≠1/\p.off≠2/\p.off≠3/\p.off≠4):(flagged W J r k).cell? p=W.cell? p:=by
 unfold flagged;rw[World.cell?_setCell_other _ _ _ _ (fun e=>(h (by rw[<-e])).2.2.2 (by rw[<-e])),World.cell?_setCell_other _ _ _ _ (fun e=>(h (by rw[<-e])).2.1 (by rw[<-e])),
  World.cell?_setCell_other _ _ _ _ (fun e=>(h (by rw[<-e])).2.2.1 (by rw[<-e])),World.cell?_setCell_other _ _ _ _ (fun e=>(h (by rw[<-e])).1 (by rw[<-e]))]
theorem NM{k:Int}(p:Addr):(flagged W J r k).frozen? p=W.frozen? p:=by
 unfold flagged;simp only[World.frozen?_setCell]
theorem FL{k:Int}:(flagged W J r k).heap.size=W.heap.size:=by
 unfold flagged;simp
theorem Vt(h l o a b:Nat)(op d u Q:Int)(R:Nat->Int)(z c X N:Bool)(w:World)(ha:a<8)(hb:b<8)(n:h<w.heap.size)(M:l<w.heap.size)(q:h≠l)(pa:0<=R a)(pb:0<=R b)(x:R b<=18446744073709551615)
 (A:w.cell? (Va h 0)=some (Vs l 8 o))(ra:w.cell? (Va l a)=some (.int .u64 (R a)))(rb:w.cell? (Va l b)=some (.int .u64 (R b)))(E:w.cell? (Va h 1)=some (.bool z))(F:w.cell? (Va h 2)=some (.bool c))(I:w.cell? (Va h 3)=some (.bool X))(J:w.cell? (Va h 4)=some (.bool N))(O:∀i,w.frozen? (Va h i)=false):
 Calls Tryz.prog 101 #[Vq h,.agg #[Vi op,Vi d,Vi a,Vi b,Vi u,Vi Q]] w fun e j=>e=.returned (.tuple #[])/\Below w.heap.size (flagged w h (EK (R a) (R b)) (borrow (R a) (R b))) j:=by
 have aa:(a:Int)<8:=AB;have ab:(b:Int)<8:=AB;go_enter Tryz.func101,Tryz.ntmps101;go_wp2_with fail;generalize r:w.alloc (.cells #[Vi op,Vi d,Vi a,Vi b,Vi u,Vi Q] 85)=k;have m:Bw w k:=by rw[<-r];exact Ah
 have xz:w.heap.size<k.heap.size:=by rw[<-r];simp
 have zC:h<k.heap.size:=AB;have zR:l<k.heap.size:=AB;have Y:k.cell? ⟨w.heap.size,2,none⟩=some (Vi a):=by rw[<-r];simp[go_sem]
 have Z:k.cell? ⟨w.heap.size,3,none⟩=some (Vi b):=by rw[<-r];simp[go_sem]
 have B:=(m.cell (p:=Va h 0) n).trans A;have C:=(m.cell (p:=Va l a) M).trans ra;have D:=(m.cell (p:=Va l b) M).trans rb;have e1:k.drew.cell? (Va h 1)=_:=(m.cell (p:=Va h 1) n).trans E;have e2:k.drew.cell? (Va h 2)=_:=(m.cell (p:=Va h 2) n).trans F;have e3:k.drew.cell? (Va h 3)=_:=(m.cell (p:=Va h 3) n).trans I;have e4:k.drew.cell? (Va h 4)=_:=(m.cell (p:=Va h 4) n).trans J;have eg:∀i,k.drew.frozen? (Va h i)=false:=fun i=>(m.frozen (p:=Va h i) n).trans (O i)
 have R0:∀j,Two k (flagged k h (EK (R a) (R b)) (borrow (R a) (R b))) j->j.cell? (Va h 0)=some (Vs l 8 o):=fun j t=>t.cell (p:=Va h 0) zC B ((Bf (fun _=>⟨AY,AY,AY,AY⟩)).trans B)
 have S2:∀j,Two k (flagged k h (EK (R a) (R b)) (borrow (R a) (R b))) j->j.cell? ⟨w.heap.size,2,none⟩=some (Vi a):=fun j t=>t.cell (p:=⟨w.heap.size,2,none⟩) xz Y ((Bf (fun e=>absurd e (by simp;omega))).trans Y)
 have S3:∀j,Two k (flagged k h (EK (R a) (R b)) (borrow (R a) (R b))) j->j.cell? ⟨w.heap.size,3,none⟩=some (Vi b):=fun j t=>t.cell (p:=⟨w.heap.size,3,none⟩) xz Z ((Bf (fun e=>absurd e (by simp;omega))).trans Z)
 have R5:∀j,Two k (flagged k h (EK (R a) (R b)) (borrow (R a) (R b))) j->j.cell? (Va l a)=some (.int .u64 (R a)):=fun j t=>t.cell (p:=Va l a) zR C ((Bf (fun e=>absurd e (Ne.symm q))).trans C)
 have R6:∀j,Two k (flagged k h (EK (R a) (R b)) (borrow (R a) (R b))) j->j.cell? (Va l b)=some (.int .u64 (R b)):=fun j t=>t.cell (p:=Va l b) zR D ((Bf (fun e=>absurd e (Ne.symm q))).trans D)
 clear r A ra rb E F I J O;refine wp_region_held_drew (S:=fun j=>Two k (flagged k h (EK (R a) (R b)) (borrow (R a) (R b))) j) Ab (.inl Al.drew) (fun hHeld=>?_);refine lM [0,1,2,3,4,5,6,7,8,9,10,11,12,13,14,15,16,17,18] ?_;refine wpAnyH_ready (rs:=[19]) Ab AY ?_;refine AllReadyH.cons rfl (fun K L=>?_) AllReadyH.nil;go_simp;refine(I6 h (R a) (R b) z c X N _ pa pb x ?q1 ?q2 ?q3 ?q4 ?q5).mono ?_
 case q1=>exact e1
 case q2=>exact e2
 case q3=>exact e3
 case q4=>exact e4
 case q5=>exact eg
 rintro e j⟨rfl,U⟩;have y:Hid _:=U;clear U;go_wp2_with fail;refine L.out _ _ (by rw[y.out];exact .inr (Ce zC Al.drew)) (fun s=>?_);clear L K;refine wpAnyH_done Ab ?_ _;go_end0;refine⟨rfl,?_⟩;rw[y.out];exact Ce n m.drew
theorem TP(j m q a:Nat)(X d b h M:Int)(R:Nat->Int)(z c O J:Bool)(w:World)(ha:a<8)(o:j<w.heap.size)(hR:m<w.heap.size)(u:j≠m)(pa:0<=R a)
 (y:w.cell? (Va j 0)=some (Vs m 8 q))(Y:w.cell? (Va m a)=some (.int .u64 (R a)))(C:w.cell? (Va j 1)=some (.bool z))(D:w.cell? (Va j 2)=some (.bool c))(E:w.cell? (Va j 3)=some (.bool O))(F:w.cell? (Va j 4)=some (.bool J))(L:∀i,w.frozen? (Va j i)=false):
 Calls Tryz.prog 102 #[Vq j,.agg #[Vi X,Vi d,Vi a,Vi b,Vi h,Vi M]] w fun e l=>e=.returned (.tuple #[])/\Below w.heap.size (flagged w j (EK (R a) (IntKind.u64.wrap h)) (borrow (R a) (IntKind.u64.wrap h))) l:=by
 have aa:(a:Int)<8:=AB;go_enter Tryz.func102,Tryz.ntmps102;go_wp2_with fail;generalize r:w.alloc (.cells #[Vi X,Vi d,Vi a,Vi b,Vi h,Vi M] 85)=k;have n:Bw w k:=by rw[<-r];exact Ah
 have Z:w.heap.size<k.heap.size:=by rw[<-r];simp
 have zC:j<k.heap.size:=AB;have zR:m<k.heap.size:=AB;have Q:k.cell? ⟨w.heap.size,2,none⟩=some (Vi a):=by rw[<-r];simp[go_sem]
 have U:k.cell? ⟨w.heap.size,4,none⟩=some (Vi h):=by rw[<-r];simp[go_sem]
 have A:=(n.cell (p:=Va j 0) o).trans y;have B:=(n.cell (p:=Va m a) hR).trans Y;have e1:k.drew.cell? (Va j 1)=_:=(n.cell (p:=Va j 1) o).trans C;have e2:k.drew.cell? (Va j 2)=_:=(n.cell (p:=Va j 2) o).trans D;have e3:k.drew.cell? (Va j 3)=_:=(n.cell (p:=Va j 3) o).trans E;have e4:k.drew.cell? (Va j 4)=_:=(n.cell (p:=Va j 4) o).trans F;have eg:∀i,k.drew.frozen? (Va j i)=false:=fun i=>(n.frozen (p:=Va j i) o).trans (L i)
 have R0:∀l,Two k (flagged k j (EK (R a) (IntKind.u64.wrap h)) (borrow (R a) (IntKind.u64.wrap h))) l->l.cell? (Va j 0)=some (Vs m 8 q):=fun l t=>t.cell (p:=Va j 0) zC A ((Bf (fun _=>⟨AY,AY,AY,AY⟩)).trans A)
 have S2:∀l,Two k (flagged k j (EK (R a) (IntKind.u64.wrap h)) (borrow (R a) (IntKind.u64.wrap h))) l->l.cell? ⟨w.heap.size,2,none⟩=some (Vi a):=fun l t=>t.cell (p:=⟨w.heap.size,2,none⟩) Z Q ((Bf (fun e=>absurd e (by simp;omega))).trans Q)
 have S4:∀l,Two k (flagged k j (EK (R a) (IntKind.u64.wrap h)) (borrow (R a) (IntKind.u64.wrap h))) l->l.cell? ⟨w.heap.size,4,none⟩=some (Vi h):=fun l t=>t.cell (p:=⟨w.heap.size,4,none⟩) Z U ((Bf (fun e=>absurd e (by simp;omega))).trans U)
 have R5:∀l,Two k (flagged k j (EK (R a) (IntKind.u64.wrap h)) (borrow (R a) (IntKind.u64.wrap h))) l->l.cell? (Va m a)=some (.int .u64 (R a)):=fun l t=>t.cell (p:=Va m a) zR B ((Bf (fun e=>absurd e (Ne.symm u))).trans B)
 clear r y Y C D E F L;refine wp_region_held_drew (S:=fun l=>Two k (flagged k j (EK (R a) (IntKind.u64.wrap h)) (borrow (R a) (IntKind.u64.wrap h))) l) Ab (.inl Al.drew) (fun hHeld=>?_);refine lM [0,1,2,3,4,5,6,7,8,9,10,11,12] ?_;refine wpAnyH_ready (rs:=[13]) Ab AY ?_;refine AllReadyH.cons rfl (fun K I=>?_) AllReadyH.nil;go_simp;refine(I6 j (R a) (IntKind.u64.wrap h) z c O J _ pa (by rw[IntKind.wrap_u64];omega) (by rw[IntKind.wrap_u64];omega) ?q1 ?q2 ?q3 ?q4 ?q5).mono ?_
 case q1=>exact e1
 case q2=>exact e2
 case q3=>exact e3
 case q4=>exact e4
 case q5=>exact eg
 rintro e l⟨rfl,N⟩;have x:Hid _:=N;clear N;go_wp2_with fail;refine I.out _ _ (by rw[x.out];exact .inr (Ce zC Al.drew)) (fun s=>?_);clear I K;refine wpAnyH_done Ab ?_ _;go_end0;refine⟨rfl,?_⟩;rw[x.out];exact Ce o n.drew
theorem TM(h l r d a b:Nat)(op B Y:Int)(R:Nat->Int)(z c Z U:Bool)(w:World)(hd:d<8)(ha:a<8)(hb:b<8)(n:h<w.heap.size)(y:l<w.heap.size)(o:h≠l)(pa:0<=R a)(pb:0<=R b)(D:R b<=18446744073709551615)
 (I:w.cell? (Va h 0)=some (Vs l 8 r))(ra:w.cell? (Va l a)=some (.int .u64 (R a)))(rb:w.cell? (Va l b)=some (.int .u64 (R b)))(rd:w.cell? (Va l d)=some (.int .u64 (R d)))(A:w.frozen? (Va l d)=false)(N:w.cell? (Va h 1)=some (.bool z))(O:w.cell? (Va h 2)=some (.bool c))(Q:w.cell? (Va h 3)=some (.bool Z))(S:w.cell? (Va h 4)=some (.bool U))(X:∀i,w.frozen? (Va h i)=false):
 Calls Tryz.prog 100 #[Vq h,.agg #[Vi op,Vi d,Vi a,Vi b,Vi B,Vi Y]] w fun e j=>e=.returned (.tuple #[])/\Below w.heap.size ((flagged w h (EK (R a) (R b)) (borrow (R a) (R b))).setCell (Va l d) (.int .u64 (EK (R a) (R b)))) j:=by
 have ae:(d:Int)<8:=AB;have ac:(a:Int)<8:=AB;have ad:(b:Int)<8:=AB;go_enter Tryz.func100,Tryz.ntmps100;go_wp2_with fail;generalize q:w.alloc (.cells #[Vi op,Vi d,Vi a,Vi b,Vi B,Vi Y] 85)=k;have m:Bw w k:=by rw[<-q];exact Ah
 have E:w.heap.size<k.heap.size:=by rw[<-q];simp
 have zC:h<k.heap.size:=AB;have zR:l<k.heap.size:=AB;have j1:k.cell? ⟨w.heap.size,1,none⟩=some (Vi d):=by rw[<-q];simp[go_sem]
 have j2:k.cell? ⟨w.heap.size,2,none⟩=some (Vi a):=by rw[<-q];simp[go_sem]
 have j3:k.cell? ⟨w.heap.size,3,none⟩=some (Vi b):=by rw[<-q];simp[go_sem]
 have J:=(m.cell (p:=Va h 0) n).trans I;have L:=(m.cell (p:=Va l a) y).trans ra;have M:=(m.cell (p:=Va l b) y).trans rb;have e1:k.drew.cell? (Va h 1)=_:=(m.cell (p:=Va h 1) n).trans N;have e2:k.drew.cell? (Va h 2)=_:=(m.cell (p:=Va h 2) n).trans O;have e3:k.drew.cell? (Va h 3)=_:=(m.cell (p:=Va h 3) n).trans Q;have e4:k.drew.cell? (Va h 4)=_:=(m.cell (p:=Va h 4) n).trans S;have eg:∀i,k.drew.frozen? (Va h i)=false:=fun i=>(m.frozen (p:=Va h i) n).trans (X i)
 have R0:∀j,Two k (flagged k h (EK (R a) (R b)) (borrow (R a) (R b))) j->j.cell? (Va h 0)=some (Vs l 8 r):=fun j t=>t.cell (p:=Va h 0) zC J ((Bf (fun _=>⟨AY,AY,AY,AY⟩)).trans J)
 have S1:∀j,Two k (flagged k h (EK (R a) (R b)) (borrow (R a) (R b))) j->j.cell? ⟨w.heap.size,1,none⟩=some (Vi d):=fun j t=>t.cell (p:=⟨w.heap.size,1,none⟩) E j1 ((Bf (fun e=>absurd e (by simp;omega))).trans j1)
 have S2:∀j,Two k (flagged k h (EK (R a) (R b)) (borrow (R a) (R b))) j->j.cell? ⟨w.heap.size,2,none⟩=some (Vi a):=fun j t=>t.cell (p:=⟨w.heap.size,2,none⟩) E j2 ((Bf (fun e=>absurd e (by simp;omega))).trans j2)
 have S3:∀j,Two k (flagged k h (EK (R a) (R b)) (borrow (R a) (R b))) j->j.cell? ⟨w.heap.size,3,none⟩=some (Vi b):=fun j t=>t.cell (p:=⟨w.heap.size,3,none⟩) E j3 ((Bf (fun e=>absurd e (by simp;omega))).trans j3)
 have R5:∀j,Two k (flagged k h (EK (R a) (R b)) (borrow (R a) (R b))) j->j.cell? (Va l a)=some (.int .u64 (R a)):=fun j t=>t.cell (p:=Va l a) zR L ((Bf (fun e=>absurd e (Ne.symm o))).trans L)
 have R6:∀j,Two k (flagged k h (EK (R a) (R b)) (borrow (R a) (R b))) j->j.cell? (Va l b)=some (.int .u64 (R b)):=fun j t=>t.cell (p:=Va l b) zR M ((Bf (fun e=>absurd e (Ne.symm o))).trans M)
 have ed:=(m.cell (p:=Va l d) y).trans rd;have ef:=(m.frozen (p:=Va l d) y).trans A;clear q I ra rb rd A N O Q S X;refine Ak (T:=fun j=>Two k (flagged k h (EK (R a) (R b)) (borrow (R a) (R b))) j) (s:=28) Ab (.inl Al.drew) (fun hHeld=>?_);refine lS [0,1,2,3,4,5,6,7,8,9,10,11,12,13,14,15,16,17,18,19,20,21,22,23,24,25] ?_;refine Ac (i:=26) rfl Ab (fun K x=>?_);go_simp;refine(I6 h (R a) (R b) z c Z U _ pa pb D ?q1 ?q2 ?q3 ?q4 ?q5).mono ?_
 case q1=>exact e1
 case q2=>exact e2
 case q3=>exact e3
 case q4=>exact e4
 case q5=>exact eg
 rintro e j⟨rfl,C⟩;have F:Hid _:=C;have aa:j.cell? (Va l d)=some (.int .u64 (R d)):=by rw[C];exact(Bf (fun e=>absurd e (Ne.symm o))).trans ed
 have ab:j.frozen? (Va l d)=false:=by rw[C,NM];exact ef
 clear C;go_wp2_with fail;refine x.out _ _ (by rw[F.out];exact .inr (Ce zC Al.drew)) (fun u=>?_);clear x K;refine BR 27 ?_;refine Ai rfl Ab Ab (fun K x=>?_);go_simp;refine x.out _ _ ?_;clear x K;go_end0;refine⟨rfl,?_⟩;rw[F.out];exact BI (Ce n m.drew) y _
def BD(w:World)(b:Nat)(v:Value)(ty:Nat):Prop:=w.heap[b]?=some (.cells #[v] ty (0,0))
theorem BD.cell(h:BD w b v B):w.cell? (Va b 0)=some v:=by
 rw[cell_of_row w b 0 #[v] B (0,0) h];rfl
theorem BD.lt(h:BD w b v B):b<w.heap.size:=(Cj.1 h).1
theorem BD.below(h:BD w b v B)(a:Below w.heap.size w j):BD j b v B:=(a.block b h.lt).trans h
theorem BD.kept(h:BD w b v B){e s:Nat}{u:Value}(r:w.ownsRow l e s u n d)(o:w.grownBy w' u.ownBlock)(c:e≠B∨1<n*s):BD w' b v B:=by
 refine(o.block b h.lt fun q=>?_).trans h;rcases r.2 with⟨rfl,_⟩|⟨g,j,m,rfl,_,a,p,_,k,_⟩
 ·simp[Value.ownBlock]at q
 ·simp only[Value.ownBlock,Option.some.injEq]at q
  subst q;rw[h]at a;simp only[Option.some.injEq,Obj.cells.injEq]at a;rcases c with c|c
  ·exact c a.2.1.symm
  ·rw[<-a.1]at k
   have:n*s<=j*s:=Nat.mul_le_mul_right _ p;simp at k;omega
abbrev Vy:=Sum Nat (Sum (Nat×Value×Nat) (Nat×Value×Nat×Value×Nat))
abbrev Vy.plain(f:Nat):Vy:=.inl f
abbrev Vy.one(f:Nat)(v:Value)(ty:Nat):Vy:=.inr (.inl (f,v,ty))
abbrev Vy.two(f:Nat)(v:Value)(ty:Nat)(v':Value)(ty':Nat):Vy:=.inr (.inr (f,v,ty,v',ty'))
def Jc(f:Nat):Value:=.func (.func f) #[] #[]
def ent:Nat->Vy
 |1=>.plain 85
 |2=>.plain 86
 |3=>.one 125 (Jc 88) 164
 |4=>.one 125 (Jc 89) 164
 |5=>.one 125 (Jc 90) 164
 |6=>.one 125 (Jc 91) 164
 |7=>.one 125 (Jc 92) 164
 |8=>.one 125 (Jc 93) 164
 |9=>.plain 94
 |10=>.one 128 (Jc 88) 164
 |11=>.one 128 (Jc 91) 164
 |12=>.one 128 (Jc 96) 164
 |13=>.one 128 (Jc 97) 164
 |14=>.plain 98
 |15=>.plain 99
 |16=>.plain 100
 |17=>.plain 101
 |18=>.plain 102
 |19=>.one 131 (Jc 104) 184
 |20=>.one 131 (Jc 105) 184
 |21=>.two 133 (Jc 107) 186 (.int .u64 1) 74
 |22=>.two 133 (Jc 107) 186 (.int .u64 8) 74
 |23=>.two 135 (Jc 107) 186 (.int .u64 1) 74
 |24=>.two 135 (Jc 107) 186 (.int .u64 8) 74
 |25=>.two 133 (Jc 109) 186 (.int .u64 1) 74
 |26=>.two 133 (Jc 109) 186 (.int .u64 8) 74
 |27=>.two 135 (Jc 109) 186 (.int .u64 1) 74
 |28=>.two 135 (Jc 109) 186 (.int .u64 8) 74
 |29=>.plain 110
 |30=>.two 136 (Jc 104) 184 (.bool true) 4
 |31=>.two 136 (Jc 104) 184 (.bool false) 4
 |32=>.two 136 (Jc 105) 184 (.bool true) 4
 |33=>.two 136 (Jc 105) 184 (.bool false) 4
 |_=>.plain 112
def Cu(ty:Nat):Prop:=ty≠76/\ty≠5/\ty≠109/\ty≠73
def Ck(w:World)(base:Nat)(v:Value):Vy->Prop
 |.inl f=>v=.func (.func f) #[] #[]
 |.inr (.inl (f,u,ty))=>Cu ty/\∃b,base<=b/\BD w b u ty/\v=.func (.func f) #[] #[Vq b]
 |.inr (.inr (f,u,ty,u',ty'))=>Cu ty/\Cu ty'/\∃b b',base<=b/\base<=b'/\BD w b u ty/\BD w b' u' ty'/\v=.func (.func f) #[] #[Vq b,Vq b']
theorem Ck.kept{e:Vy}(h:Ck w l v e)(k:∀b u d,Cu d->BD w b u d->BD w' b u d):Ck w' l v e:=by
 rcases e with f|⟨f,u,d⟩|⟨f,u,d,s,r⟩
 ·exact h
 ·obtain⟨a,b,j,m,n⟩:=h;exact⟨a,b,j,k _ _ _ a m,n⟩
 ·obtain⟨a,c,b,o,j,m,n,p,q⟩:=h;exact⟨a,c,b,o,j,m,k _ _ _ a n,k _ _ _ c p,q⟩
def Xu(w:World)(base:Nat)(tab:List Value):Prop:=tab.length=35/\∀op,1<=op->op<=34->∃v,tab[op]?=some v/\Ck w base v (ent op)
theorem Xu.kept{B:List Value}(h:Xu w l B)(k:∀b u a,Cu a->BD w b u a->BD w' b u a):Xu w' l B:=
 ⟨h.1,fun m c d=>by obtain⟨v,j,e⟩:=h.2 m c d;exact⟨v,j,e.kept k⟩⟩
def Uw(p:Pl)(M:MV)(nx:Int)(tab:List Value):List Value:=
 Vs p.bR 8 p.cR::.bool M.z::.bool M.c::.bool M.hz::.bool M.hc::.slice p.aH M.nH p.cH::Vi M.pc::Vi M.st::.slice p.aO M.nO p.cO::Vi nx::tab
structure Core(w:World)(base bC:Nat)(p:Pl)(nx:Int)(tab:List Value)(M:MV):Prop where
 mem:Mem w base p M
 core:w.ownsRow base 73 45 (Vs bC 1 1) 1 (Uw p M nx tab)
 tab:Xu w base tab
section
variable{w w':World}{base bC:Nat}{p:Pl}{nx:Int}{tab:List Value}{M:MV}
theorem Core.below(h:Core w base bC p nx tab M)(a:Below w.heap.size w w'):Core w' base bC p nx tab M:=
 ⟨h.mem.below a,Am h.core a,h.tab.kept fun _ _ _ _ b=>b.below a⟩
theorem Core.lt(h:Core w base bC p nx tab M):base<=bC/\bC<w.heap.size:=h.core.lt bC rfl
theorem Core.ltR(h:Core w base bC p nx tab M):base<=p.bR/\p.bR<w.heap.size:=h.mem.regs.lt p.bR rfl
theorem Core.size(h:Core w base bC p nx tab M):base<=w.heap.size:=Nat.le_of_lt (Nat.lt_of_le_of_lt h.lt.1 h.lt.2)
theorem Core.neR(h:Core w base bC p nx tab M):bC≠p.bR:=by
 have:=CU (Ae h.core h.mem.regs Aa);simpa[Value.ownBlock]using this
theorem Core.neO(h:Core w base bC p nx tab M):some bC≠(Value.slice p.aO M.nO p.cO).ownBlock:=CU (Ae h.core h.mem.obs Aa)
theorem Core.reg(h:Core w base bC p nx tab M){i:Nat}(a:i<8):w.cell? ⟨p.bR,i,none⟩=some (.int .u64 (M.R i)):=by
 rw[h.mem.regs.cellAt i AB,DF a];rfl
theorem Core.free(h:Core w base bC p nx tab M)(i:Nat):w.frozen? (Va bC i)=false:=h.core.frozenAt i
theorem Core.freeR(h:Core w base bC p nx tab M)(i:Nat):w.frozen? ⟨p.bR,i,none⟩=false:=h.mem.regs.frozenAt i
theorem Core.c0(h:Core w base bC p nx tab M):w.cell? (Va bC 0)=some (Vs p.bR 8 p.cR):=h.core.cellAt 0 Aa
theorem Core.c1(h:Core w base bC p nx tab M):w.cell? (Va bC 1)=some (.bool M.z):=h.core.cellAt 1 Aa
theorem Core.c2(h:Core w base bC p nx tab M):w.cell? (Va bC 2)=some (.bool M.c):=h.core.cellAt 2 Aa
theorem Core.c3(h:Core w base bC p nx tab M):w.cell? (Va bC 3)=some (.bool M.hz):=h.core.cellAt 3 Aa
theorem Core.c4(h:Core w base bC p nx tab M):w.cell? (Va bC 4)=some (.bool M.hc):=h.core.cellAt 4 Aa
theorem Core.c5(h:Core w base bC p nx tab M):w.cell? (Va bC 5)=some (.slice p.aH M.nH p.cH):=h.core.cellAt 5 Aa
theorem Core.c6(h:Core w base bC p nx tab M):w.cell? (Va bC 6)=some (Vi M.pc):=h.core.cellAt 6 Aa
theorem Core.c7(h:Core w base bC p nx tab M):w.cell? (Va bC 7)=some (Vi M.st):=h.core.cellAt 7 Aa
theorem Core.c8(h:Core w base bC p nx tab M):w.cell? (Va bC 8)=some (.slice p.aO M.nO p.cO):=h.core.cellAt 8 Aa
theorem Core.c9(h:Core w base bC p nx tab M):w.cell? (Va bC 9)=some (Vi nx):=h.core.cellAt 9 Aa
theorem Core.setR(h:Core w base bC p nx tab M)(d:Nat)(v:Int):Core (w.setCell ⟨p.bR,d,none⟩ (.int .u64 v)) base bC p nx tab (M.setR d v):=by
 have a:=(h.mem.regs.stored d (.int .u64 v)).2;exact⟨h.mem.setR d v,h.core.kept a (Ae h.core h.mem.regs Aa),h.tab.kept fun _ _ _ _ b=>b.kept h.mem.regs a (.inr Aa)⟩
theorem Core.poke(h:Core w base bC p nx tab M)(a:k<M.nH)(j:Nat)(u:Int):Core (w.setCell ⟨p.blk k,j,none⟩ (.int .u8 u)) base bC p nx tab (M.poke k j u):=by
 have b:=((h.mem.data k a).stored j (.int .u8 u)).2;exact⟨h.mem.poke a j u,h.core.kept b (Ae h.core (h.mem.data k a) Aa),h.tab.kept fun _ _ _ d c=>c.kept (h.mem.data k a) b (.inl (Ne.symm d.2.1))⟩
theorem Core.put(h:Core w base bC p nx tab M)(j:Nat)(u:Value){nx':Int}{a:MV}(k:∀v,Mem v base p M->Mem v base p a)(e:(Uw p M nx tab).set j u=Uw p a nx' tab):Core (w.setCell (Va bC j) u) base bC p nx' tab a:=by
 obtain⟨b,c⟩:=h.core.stored j u;rw[e]at b;exact⟨k _ (h.mem.other h.core c Aa Aa Aa Aa),b,h.tab.kept fun _ _ _ l d=>d.kept h.core c (.inl (Ne.symm l.2.2.2))⟩
theorem Core.next(h:Core w base bC p nx tab M)(v:Int):Core (w.setCell (Va bC 9) (Vi v)) base bC p v tab M:=h.put 9 _ (fun _ q=>q) rfl
theorem Core.setSt(h:Core w base bC p nx tab M)(v:Int):Core (w.setCell (Va bC 7) (Vi v)) base bC p nx tab {M with st:=v}:=h.put 7 _ (fun _ q=>⟨q.regs,q.heaps,q.data,q.obs,q.ne⟩) rfl
theorem Core.setPc(h:Core w base bC p nx tab M)(v:Int):Core (w.setCell (Va bC 6) (Vi v)) base bC p nx tab {M with pc:=v}:=h.put 6 _ (fun _ q=>⟨q.regs,q.heaps,q.data,q.obs,q.ne⟩) rfl
theorem Core.setZ(h:Core w base bC p nx tab M)(v:Bool):Core (w.setCell (Va bC 1) (.bool v)) base bC p nx tab {M with z:=v}:=h.put 1 _ (fun _ q=>⟨q.regs,q.heaps,q.data,q.obs,q.ne⟩) rfl
theorem Core.setC(h:Core w base bC p nx tab M)(v:Bool):Core (w.setCell (Va bC 2) (.bool v)) base bC p nx tab {M with c:=v}:=h.put 2 _ (fun _ q=>⟨q.regs,q.heaps,q.data,q.obs,q.ne⟩) rfl
theorem Core.setHz(h:Core w base bC p nx tab M)(v:Bool):Core (w.setCell (Va bC 3) (.bool v)) base bC p nx tab {M with hz:=v}:=h.put 3 _ (fun _ q=>⟨q.regs,q.heaps,q.data,q.obs,q.ne⟩) rfl
theorem Core.setHc(h:Core w base bC p nx tab M)(v:Bool):Core (w.setCell (Va bC 4) (.bool v)) base bC p nx tab {M with hc:=v}:=h.put 4 _ (fun _ q=>⟨q.regs,q.heaps,q.data,q.obs,q.ne⟩) rfl
theorem Core.flagged(h:Core w base bC p nx tab M)(r k:Int):Core (flagged w bC r k) base bC p nx tab (M.flags r (k !=0)):=
 (((h.setZ (r==0)).setHz true).setC (k !=0)).setHc true
theorem Core.seen(h:Core w base bC p nx tab M)(o:Seen base bC M.nO (.slice p.aO M.nO p.cO) (first (M.nO*2) (CR M.K M.V)) e val w w'):
 ∃g a,Core w' base bC {p with aO:=some ⟨g,0,none⟩,cO:=a} nx tab (M.see e val):=by
 obtain⟨y,k,m,c,n⟩:=o;obtain⟨g,a,rfl⟩:=Ht m;refine⟨g,a,?_⟩;have q:=h.mem.see m c;have j:=h.core.kept c (Ae h.core h.mem.obs Aa);have u:Xu k base tab:=h.tab.kept fun _ _ _ d b=>b.kept h.mem.obs c (.inl (Ne.symm d.2.2.1))
 obtain⟨s,l⟩:=j.stored 8 (Vs g (M.nO+1) a);have r:=q.other j l Aa Aa Aa Aa;have x:=u.kept (w':=k.setCell (Va bC 8) (Vs g (M.nO+1) a)) fun _ _ _ d b=>b.kept j l (.inl (Ne.symm d.2.2.2))
 have b:Core (k.setCell (Va bC 8) (Vs g (M.nO+1) a)) base bC {p with aO:=some ⟨g,0,none⟩,cO:=a} nx tab (M.see e val):=⟨r,s,x⟩
 exact b.below (by simpa using n)
def K5(w w':World):Prop:=∀(k:Nat)(cur:Array Value)(ty:Nat)(fr:Nat×Nat),w.heap[k]?=some (.cells cur ty fr)->Cu ty->ty≠74->w'.heap[k]?=some (.cells cur ty fr)
theorem K5.below(a:Below w.heap.size w j):K5 w j:=fun k _ _ _ h _ _=>(a.block k (Cj.1 h).1).trans h
theorem K5.row{e s:Nat}(h:w.ownsRow l e s v n d)(x:w.grownBy j v.ownBlock)(u:∀b,Cu b->b≠74->e≠b):K5 w j:=by
 intro k r b C c z A;refine(x.block k (Cj.1 c).1 fun q=>?_).trans c;rcases h.2 with y|⟨g,p,m,B,D,a,o⟩
 ·rw[y.1]at q;cases q
 ·rw[B]at q
  have:k=g:=by simpa[Value.ownBlock]using q
  subst this;rw[c]at a;simp only[Option.some.injEq,Obj.cells.injEq]at a;exact u b z A a.2.1.symm
def Keep(w w':World):Prop:=(∀b u ty,Cu ty->BD w b u ty->BD w' b u ty)/\K5 w w'
theorem Keep.trans{a b c:World}(h:Keep a b)(k:Keep b c):Keep a c:=⟨fun _ _ _ d j=>k.1 _ _ _ d (h.1 _ _ _ d j),fun _ _ _ _ l d e=>k.2 _ _ _ _ (h.2 _ _ _ _ l d e) d e⟩
theorem Keep.below(a:Below w.heap.size w j):Keep w j:=⟨fun _ _ _ _ b=>b.below a,K5.below a⟩
theorem Core.keepR(h:Core w base bC p nx tab M)(d:Nat)(v:Int):Keep w (w.setCell ⟨p.bR,d,none⟩ (.int .u64 v)):=
 ⟨fun _ _ _ _ a=>a.kept h.mem.regs (h.mem.regs.stored d (.int .u64 v)).2 (.inr Aa),K5.row h.mem.regs (h.mem.regs.stored d (.int .u64 v)).2 fun _ _ b=>Ne.symm b⟩
theorem Core.keepD(h:Core w base bC p nx tab M)(a:k<M.nH)(j:Nat)(u:Int):Keep w (w.setCell ⟨p.blk k,j,none⟩ (.int .u8 u)):=
 ⟨fun _ _ _ b c=>c.kept (h.mem.data k a) ((h.mem.data k a).stored j (.int .u8 u)).2 (.inl (Ne.symm b.2.1)),K5.row (h.mem.data k a) ((h.mem.data k a).stored j (.int .u8 u)).2 fun _ b _=>Ne.symm b.2.1⟩
theorem Core.keepC(h:Core w base bC p nx tab M)(j:Nat)(u:Value):Keep w (w.setCell (Va bC j) u):=
 ⟨fun _ _ _ a b=>b.kept h.core (h.core.stored j u).2 (.inl (Ne.symm a.2.2.2)),K5.row h.core (h.core.stored j u).2 fun _ a _=>Ne.symm a.2.2.2⟩
theorem Core.keepF(h:Core w base bC p nx tab M)(r k:Int):Keep w (Go.Proofs.YtkckomianknjdaaGreat.flagged w bC r k):=
 (((h.keepC 1 _).trans ((h.setZ (r==0)).keepC 3 _)).trans (((h.setZ (r==0)).setHz true).keepC 2 _)).trans ((((h.setZ (r==0)).setHz true).setC (k !=0)).keepC 4 _)
theorem Core.keepS(h:Core w base bC p nx tab M)(m:Seen base bC M.nO (.slice p.aO M.nO p.cO) (first (M.nO*2) (CR M.K M.V)) e val w w'):Keep w w':=by
 obtain⟨j,k,q,c,l⟩:=m;have b:=h.core.kept c (Ae h.core h.mem.obs Aa);have n:Keep w k:=⟨fun _ _ _ a d=>d.kept h.mem.obs c (.inl (Ne.symm a.2.2.1)),K5.row h.mem.obs c fun _ a _=>Ne.symm a.2.2.1⟩
 have o:Keep k (k.setCell (Va bC 8) j):=⟨fun _ _ _ a d=>d.kept b (b.stored 8 j).2 (.inl (Ne.symm a.2.2.2)),K5.row b (b.stored 8 j).2 fun _ a _=>Ne.symm a.2.2.2⟩
 exact(n.trans o).trans (Keep.below (by simpa using l))
theorem Seen.below{h:Value}(r:Seen l J n h d e val w j)(c:l<=w.heap.size)(o:l<=J)(q:w.ownsRow l 109 2 h n d):Below l w j:=by
 obtain⟨u,s,_,b,a⟩:=r;have m:Below l w s:=Al.grown b c (fun k p=>(q.lt k p).1);exact(m.setCell (by simpa using o) _).trans (a.mono (Nat.le_trans c b.size))
end
abbrev II:=Sum (MV×Int) MV
abbrev II.done(M:MV)(nx:Int):II:=.inl (M,nx)
abbrev II.flt(M:MV):II:=.inr M
def Eu(f:Nat->Int)(o:Nat):Nat->Int
 |0=>0
 |k+1=>Eu f o k+f (o+k)*2^(8*k)
def MV.pokeN(M:MV)(h o:Nat)(v:Int):Nat->MV
 |0=>M
 |k+1=>(M.pokeN h o v k).poke h (o+k) (v/2^(8*k)%256)
def Ca(store:Bool)(width:Nat)(addr:Int)(d h:Nat)(M:MV)(nx:Int):II:=
 if M.nH<=h then .flt (M.see 1 addr)
 else if lies (M.Hp h).base addr width (M.Hp h).len&&(!store||(M.Hp h).wr)then
  if store then .done ((M.see 1 addr).pokeN h (addr-(M.Hp h).base).toNat (M.R d) width) nx
  else .done ((M.see 1 addr).setR d (Eu (M.Hp h).dat (addr-(M.Hp h).base).toNat width)) nx
 else .flt (M.see 1 addr)
def Cw(has flag wanted:Bool)(imm:Int)(M:MV)(nx:Int):II:=
 if has then(if flag==wanted then .done (M.see 2 1) imm else .done (M.see 2 0) nx)else .flt M
def J4(M:MV)(a:Nat)(imm:Int):Int:=IntKind.u64.wrap (M.R a+IntKind.u64.wrap imm)
def KJ(M:MV)(a b:Nat):Int:=IntKind.u64.wrap (M.R a+M.R b)
def exec(op d a b h:Nat)(imm:Int)(M:MV)(nx:Int):II:=
 match op with
 |1=>.done (M.setR d (M.R a)) nx
 |2=>.done (M.setR d (IntKind.u64.wrap imm)) nx
 |3=>.done (M.setR d (IntKind.u64.wrap (M.R a+M.R b))) nx
 |4=>.done (M.setR d (IntKind.u64.wrap (M.R a-M.R b))) nx
 |5=>.done (M.setR d (IntKind.u64.wrap (M.R a*M.R b))) nx
 |6=>.done (M.setR d (bits BinOp.and IntKind.u64 (M.R a) (M.R b))) nx
 |7=>.done (M.setR d (bits BinOp.or IntKind.u64 (M.R a) (M.R b))) nx
 |8=>.done (M.setR d (bits BinOp.xor IntKind.u64 (M.R a) (M.R b))) nx
 |9=>.done ((M.see 3 (Bg (M.R a).toNat*65+Bg (M.R b).toNat)).setR d (if M.R b=0 then 0 else M.R a/M.R b)) nx
 |10=>.done (M.setR d (IntKind.u64.wrap (M.R a+IntKind.u64.wrap imm))) nx
 |11=>.done (M.setR d (bits BinOp.and IntKind.u64 (M.R a) (IntKind.u64.wrap imm))) nx
 |12=>.done (M.setR d (IntKind.u64.wrap (M.R a*2^(IntKind.u64.wrap imm).toNat))) nx
 |13=>.done (M.setR d (M.R a/2^(IntKind.u64.wrap imm).toNat)) nx
 |14=>.done ((M.setR d (EP (M.R a) (M.R b) 0)).flags (EP (M.R a) (M.R b) 0) (carry (M.R a) (M.R b) 0 !=0)) nx
 |15=>if M.hc then .done ((M.setR d (EP (M.R a) (M.R b) (if M.c then 1 else 0))).flags (EP (M.R a) (M.R b) (if M.c then 1 else 0)) (carry (M.R a) (M.R b) (if M.c then 1 else 0) !=0)) nx else .flt M
 |16=>.done ((M.flags (EK (M.R a) (M.R b)) (borrow (M.R a) (M.R b) !=0)).setR d (EK (M.R a) (M.R b))) nx
 |17=>.done (M.flags (EK (M.R a) (M.R b)) (borrow (M.R a) (M.R b) !=0)) nx
 |18=>.done (M.flags (EK (M.R a) (IntKind.u64.wrap imm)) (borrow (M.R a) (IntKind.u64.wrap imm) !=0)) nx
 |19=>if M.hz then .done (M.setR d (if M.z then M.R a else M.R b)) nx else .flt M
 |20=>if M.hc then .done (M.setR d (if M.c then M.R a else M.R b)) nx else .flt M
 |21=>Ca false 1 (J4 M a imm) d h M nx
 |22=>Ca false 8 (J4 M a imm) d h M nx
 |23=>Ca true 1 (J4 M a imm) d h M nx
 |24=>Ca true 8 (J4 M a imm) d h M nx
 |25=>Ca false 1 (KJ M a b) d h M nx
 |26=>Ca false 8 (KJ M a b) d h M nx
 |27=>Ca true 1 (KJ M a b) d h M nx
 |28=>Ca true 8 (KJ M a b) d h M nx
 |29=>.done M imm
 |30=>Cw M.hz M.z true imm M nx
 |31=>Cw M.hz M.z false imm M nx
 |32=>Cw M.hc M.c true imm M nx
 |33=>Cw M.hc M.c false imm M nx
 |_=>.done {M with st:=1} M.pc
structure MV.Ok(M:MV):Prop where
 reg:∀i,i<8->0<=M.R i/\M.R i<=18446744073709551615
 heaps:M.nH<=8
 heap:∀i,i<M.nH->0<=(M.Hp i).base/\1<=(M.Hp i).len/\(M.Hp i).len<=4096/\(M.Hp i).base+(M.Hp i).len<=18446744073709551615
 dat:∀i,i<M.nH->∀j,j<(M.Hp i).len->0<=(M.Hp i).dat j/\(M.Hp i).dat j<=255
def Hy(base bC:Nat)(tab:List Value)(w:World)(o:II)(e:Ending)(w':World):Prop:=
 Below base w w'/\Keep w w'/\match o with
  |.inl (M,nx)=>e=.returned (.tuple #[])/\∃p,Core w' base bC p nx tab M
  |.inr M=>e=.panicked [{v:=.iface 138 (.agg #[]),recovered:=false}]/\∃p nx,Core w' base bC p nx tab M
theorem Di(x:Int):0<=IntKind.u64.wrap x/\IntKind.u64.wrap x<=18446744073709551615:=by
 have h:IntKind.u64.wrap x=x%18446744073709551616:=by rfl
 rw[h];omega
theorem FE(f:Nat->Int)(o:Nat):∀k,(∀j,j<k->0<=f (o+j)/\f (o+j)<=255)->0<=Eu f o k/\Eu f o k<2^(8*k)
 |0,_=>by simp[Eu]
 |k+1,h=>by
  have c:=FE f o k fun j b=>h j AB
  have a:=h k AB;have e:(2:Int)^(8*(k+1))=256*2^(8*k):=by rw[show 8*(k+1)=8*k+8 by omega,Int.pow_add];omega
  unfold Eu;rw[e];have p:(0:Int)<2^(8*k):=Int.pow_pos Aa;have d:0<=f (o+k)*2^(8*k):=Int.mul_nonneg a.1 (Int.le_of_lt p);have l:f (o+k)*2^(8*k)<=255*2^(8*k):=Int.mul_le_mul_of_nonneg_right a.2 (Int.le_of_lt p);omega
theorem H6{x:Int}(a:0<=x)(b:x<18446744073709551616):IntKind.u64.wrap x=x:=by
 have h:IntKind.u64.wrap x=x%18446744073709551616:=by rfl
 rw[h];omega
theorem Kk(h:k<=7):(256:Int)*2^(8*k)<=18446744073709551616:=by
 match k,h with
 |0,_|1,_|2,_|3,_|4,_|5,_|6,_|7,_=>decide
theorem Lp{y:Int}(c:k<=7)(a:0<=y)(b:y<=255):0<=y*2^(8*k)/\y*2^(8*k)<18446744073709551616:=by
 have p:(0:Int)<2^(8*k):=Int.pow_pos Aa;have d:0<=y*2^(8*k):=Int.mul_nonneg a (Int.le_of_lt p);have e:y*2^(8*k)<=255*2^(8*k):=Int.mul_le_mul_of_nonneg_right b (Int.le_of_lt p);have:=Kk c;omega
theorem Wm{x y:Int}(h:k<=7)(o:0<=x)(q:x<2^(8*k))(b:0<=y)(j:y<=255):bits BinOp.or IntKind.u64 x (y*2^(8*k))=x+y*2^(8*k):=by
 obtain⟨X,rfl⟩:=Int.eq_ofNat_of_zero_le o;obtain⟨Y,rfl⟩:=Int.eq_ofNat_of_zero_le b;have d:=Lp h b j;have r:=Kk h;have l:X<2^(8*k):=by exact_mod_cast q
 have e:((Y:Int)*2^(8*k))=((Y<<<(8*k):Nat):Int):=by rw[Nat.shiftLeft_eq];push_cast;rfl
 rw[e]at d⊢;have n:((X:Int)+((Y<<<(8*k):Nat):Int))=((Y<<<(8*k)|||X:Nat):Int):=by rw[<-Nat.shiftLeft_add_eq_or_of_lt l];push_cast;omega
 rw[n];have c:Y<<<(8*k)<2^64:=by have:=d.2;omega
 have a:X<2^64:=by
  have:(X:Int)<18446744073709551616:=by
   have p:(0:Int)<2^(8*k):=Int.pow_pos Aa;omega
  omega
 have m:Y<<<(8*k)|||X<2^64:=Nat.or_lt_two_pow c a;unfold bits;show IntKind.u64.wrap ((BitVec.ofInt 64 (X:Int)|||BitVec.ofInt 64 ((Y<<<(8*k):Nat):Int)).toNat:Int)=_;rw[BitVec.ofInt_natCast,BitVec.ofInt_natCast,BitVec.toNat_or,BitVec.toNat_ofNat,BitVec.toNat_ofNat,Nat.mod_eq_of_lt a,Nat.mod_eq_of_lt c,Nat.or_comm];exact H6 AB AB
end Go.Proofs.YtkckomianknjdaaGreat
