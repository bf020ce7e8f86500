import Derived.Test.YtjoppncopoampaaGreatDoorOfCoreReg
import Derived.Test.YtjoppncopoampaaGreatDoorOfUnitSpec
import Derived.Test.YtjoppncopoampaaGreatDoorOfCoreSel
import Derived.Test.YtjoppncopoampaaGreatDoorOfLen64
import Derived.Test.YtjoppncopoampaaGreatDoorOfMachCopy2
import Derived.Test.YtjoppncopoampaaGreatDoorOfFrMach
set_option maxHeartbeats 2000000
set_option maxRecDepth 20000
namespace Go.Proofs.YtjoppncopoampaaGreatDoor
open Go.RowKit
variable {I:Array Value}{val:Int}{d:List Value}{Y b c e k l n p q r s:Nat}{U:Option Addr}{v:Value}{Q W j u w w':World}
def Two(W X w':World):Prop:=Below W.heap.size W w'∨Below W.heap.size X w'
theorem Two.cell{X:World}(h:Two W X j){p:Addr}(a:p.block<W.heap.size)(b:W.cell? p=some v)(c:X.cell? p=some v):j.cell? p=some v:=by
 rcases h with h|h
 ·exact(h.cell a).trans b
 ·exact(h.cell a).trans c
theorem Bg{r k:Int}{p:Addr}(h:p.block=c->p.off≠1/\p.off≠2/\p.off≠3/\p.off≠4):(flagged W c r k).cell? p=W.cell? p:=by
 unfold flagged;rw[World.cell?_setCell_other _ _ _ _ (fun e=>(h (by rw[<-e])).2.2.2 (by rw[<-e])),World.cell?_setCell_other _ _ _ _ (fun e=>(h (by rw[<-e])).2.1 (by rw[<-e])),
  World.cell?_setCell_other _ _ _ _ (fun e=>(h (by rw[<-e])).2.2.1 (by rw[<-e])),World.cell?_setCell_other _ _ _ _ (fun e=>(h (by rw[<-e])).1 (by rw[<-e]))]
theorem OX{r k:Int}(p:Addr):(flagged W c r k).frozen? p=W.frozen? p:=by
 unfold flagged;simp only[World.frozen?_setCell]
theorem FW{r k:Int}:(flagged W c r k).heap.size=W.heap.size:=by
 unfold flagged;simp
theorem YZ(h l o a b:Nat)(op d u Q:Int)(R:Nat->Int)(z c X N:Bool)(w:World)(ha:a<8)(hb:b<8)(n:h<w.heap.size)(M:l<w.heap.size)(q:h≠l)(pa:0<=R a)(pb:0<=R b)(x:R b<=18446744073709551615)
 (A:w.cell? (Va h 0)=some (Vs l 8 o))(ra:w.cell? (Va l a)=some (.int .u64 (R a)))(rb:w.cell? (Va l b)=some (.int .u64 (R b)))(E:w.cell? (Va h 1)=some (.bool z))(F:w.cell? (Va h 2)=some (.bool c))(I:w.cell? (Va h 3)=some (.bool X))(J:w.cell? (Va h 4)=some (.bool N))(O:∀i,w.frozen? (Va h i)=false):
 Calls Tryz.prog 126 #[Vq h,.agg #[Vi op,Vi d,Vi a,Vi b,Vi u,Vi Q]] w fun e j=>e=.returned (.tuple #[])/\Below w.heap.size (flagged w h (Ep (R a) (R b)) (borrow (R a) (R b))) j:=by
 have aa:(a:Int)<8:=AB;have ab:(b:Int)<8:=AB;go_enter Tryz.func126,Tryz.ntmps126;go_wp2_with fail;generalize r:w.alloc (.cells #[Vi op,Vi d,Vi a,Vi b,Vi u,Vi Q] 109)=k;have m:Bw w k:=by rw[<-r];exact Ai
 have xz:w.heap.size<k.heap.size:=by rw[<-r];simp
 have zC:h<k.heap.size:=AB;have zR:l<k.heap.size:=AB;have Y:k.cell? ⟨w.heap.size,2,none⟩=some (Vi a):=by rw[<-r];simp[go_sem]
 have Z:k.cell? ⟨w.heap.size,3,none⟩=some (Vi b):=by rw[<-r];simp[go_sem]
 have B:=(m.cell (p:=Va h 0) n).trans A;have C:=(m.cell (p:=Va l a) M).trans ra;have D:=(m.cell (p:=Va l b) M).trans rb;have e1:k.drew.cell? (Va h 1)=_:=(m.cell (p:=Va h 1) n).trans E;have e2:k.drew.cell? (Va h 2)=_:=(m.cell (p:=Va h 2) n).trans F;have e3:k.drew.cell? (Va h 3)=_:=(m.cell (p:=Va h 3) n).trans I;have e4:k.drew.cell? (Va h 4)=_:=(m.cell (p:=Va h 4) n).trans J;have eg:∀i,k.drew.frozen? (Va h i)=false:=fun i=>(m.frozen (p:=Va h i) n).trans (O i)
 have R0:∀j,Two k (flagged k h (Ep (R a) (R b)) (borrow (R a) (R b))) j->j.cell? (Va h 0)=some (Vs l 8 o):=fun j t=>t.cell (p:=Va h 0) zC B ((Bg (fun _=>⟨AX,AX,AX,AX⟩)).trans B)
 have S2:∀j,Two k (flagged k h (Ep (R a) (R b)) (borrow (R a) (R b))) j->j.cell? ⟨w.heap.size,2,none⟩=some (Vi a):=fun j t=>t.cell (p:=⟨w.heap.size,2,none⟩) xz Y ((Bg (fun e=>absurd e (by simp;omega))).trans Y)
 have S3:∀j,Two k (flagged k h (Ep (R a) (R b)) (borrow (R a) (R b))) j->j.cell? ⟨w.heap.size,3,none⟩=some (Vi b):=fun j t=>t.cell (p:=⟨w.heap.size,3,none⟩) xz Z ((Bg (fun e=>absurd e (by simp;omega))).trans Z)
 have R5:∀j,Two k (flagged k h (Ep (R a) (R b)) (borrow (R a) (R b))) j->j.cell? (Va l a)=some (.int .u64 (R a)):=fun j t=>t.cell (p:=Va l a) zR C ((Bg (fun e=>absurd e (Ne.symm q))).trans C)
 have R6:∀j,Two k (flagged k h (Ep (R a) (R b)) (borrow (R a) (R b))) j->j.cell? (Va l b)=some (.int .u64 (R b)):=fun j t=>t.cell (p:=Va l b) zR D ((Bg (fun e=>absurd e (Ne.symm q))).trans D)
 clear r A ra rb E F I J O;refine wp_region_held_drew (S:=fun j=>Two k (flagged k h (Ep (R a) (R b)) (borrow (R a) (R b))) j) AV (.inl BJ.drew) (fun hHeld=>?_);refine EX [0,1,2,3,4,5,6,7,8,9,10,11,12,13,14,15,16,17,18] ?_;refine wpAnyH_ready (rs:=[19]) AV AX ?_;refine AllReadyH.cons rfl (fun K L=>?_) AllReadyH.nil;go_simp;refine(Jq h (R a) (R b) z c X N _ pa pb x ?q1 ?q2 ?q3 ?q4 ?q5).mono ?_
 case q1=>exact e1
 case q2=>exact e2
 case q3=>exact e3
 case q4=>exact e4
 case q5=>exact eg
 rintro e j⟨rfl,U⟩;have y:Hid _:=U;clear U;go_wp2_with fail;refine L.out _ _ (by rw[y.out];exact .inr (Cr zC BJ.drew)) (fun s=>?_);clear L K;refine wpAnyH_done AV ?_ _;go_end0;refine⟨rfl,?_⟩;rw[y.out];exact Cr n m.drew
theorem VS(j m q a:Nat)(X d b h M:Int)(R:Nat->Int)(z c O J:Bool)(w:World)(ha:a<8)(o:j<w.heap.size)(hR:m<w.heap.size)(u:j≠m)(pa:0<=R a)
 (y:w.cell? (Va j 0)=some (Vs m 8 q))(Y:w.cell? (Va m a)=some (.int .u64 (R a)))(C:w.cell? (Va j 1)=some (.bool z))(D:w.cell? (Va j 2)=some (.bool c))(E:w.cell? (Va j 3)=some (.bool O))(F:w.cell? (Va j 4)=some (.bool J))(L:∀i,w.frozen? (Va j i)=false):
 Calls Tryz.prog 127 #[Vq j,.agg #[Vi X,Vi d,Vi a,Vi b,Vi h,Vi M]] w fun e l=>e=.returned (.tuple #[])/\Below w.heap.size (flagged w j (Ep (R a) (IntKind.u64.wrap h)) (borrow (R a) (IntKind.u64.wrap h))) l:=by
 have aa:(a:Int)<8:=AB;go_enter Tryz.func127,Tryz.ntmps127;go_wp2_with fail;generalize r:w.alloc (.cells #[Vi X,Vi d,Vi a,Vi b,Vi h,Vi M] 109)=k;have n:Bw w k:=by rw[<-r];exact Ai
 have Z:w.heap.size<k.heap.size:=by rw[<-r];simp
 have zC:j<k.heap.size:=AB;have zR:m<k.heap.size:=AB;have Q:k.cell? ⟨w.heap.size,2,none⟩=some (Vi a):=by rw[<-r];simp[go_sem]
 have U:k.cell? ⟨w.heap.size,4,none⟩=some (Vi h):=by rw[<-r];simp[go_sem]
 have A:=(n.cell (p:=Va j 0) o).trans y;have B:=(n.cell (p:=Va m a) hR).trans Y;have e1:k.drew.cell? (Va j 1)=_:=(n.cell (p:=Va j 1) o).trans C;have e2:k.drew.cell? (Va j 2)=_:=(n.cell (p:=Va j 2) o).trans D;have e3:k.drew.cell? (Va j 3)=_:=(n.cell (p:=Va j 3) o).trans E;have e4:k.drew.cell? (Va j 4)=_:=(n.cell (p:=Va j 4) o).trans F;have eg:∀i,k.drew.frozen? (Va j i)=false:=fun i=>(n.frozen (p:=Va j i) o).trans (L i)
 have R0:∀l,Two k (flagged k j (Ep (R a) (IntKind.u64.wrap h)) (borrow (R a) (IntKind.u64.wrap h))) l->l.cell? (Va j 0)=some (Vs m 8 q):=fun l t=>t.cell (p:=Va j 0) zC A ((Bg (fun _=>⟨AX,AX,AX,AX⟩)).trans A)
 have S2:∀l,Two k (flagged k j (Ep (R a) (IntKind.u64.wrap h)) (borrow (R a) (IntKind.u64.wrap h))) l->l.cell? ⟨w.heap.size,2,none⟩=some (Vi a):=fun l t=>t.cell (p:=⟨w.heap.size,2,none⟩) Z Q ((Bg (fun e=>absurd e (by simp;omega))).trans Q)
 have S4:∀l,Two k (flagged k j (Ep (R a) (IntKind.u64.wrap h)) (borrow (R a) (IntKind.u64.wrap h))) l->l.cell? ⟨w.heap.size,4,none⟩=some (Vi h):=fun l t=>t.cell (p:=⟨w.heap.size,4,none⟩) Z U ((Bg (fun e=>absurd e (by simp;omega))).trans U)
 have R5:∀l,Two k (flagged k j (Ep (R a) (IntKind.u64.wrap h)) (borrow (R a) (IntKind.u64.wrap h))) l->l.cell? (Va m a)=some (.int .u64 (R a)):=fun l t=>t.cell (p:=Va m a) zR B ((Bg (fun e=>absurd e (Ne.symm u))).trans B)
 clear r y Y C D E F L;refine wp_region_held_drew (S:=fun l=>Two k (flagged k j (Ep (R a) (IntKind.u64.wrap h)) (borrow (R a) (IntKind.u64.wrap h))) l) AV (.inl BJ.drew) (fun hHeld=>?_);refine EX [0,1,2,3,4,5,6,7,8,9,10,11,12] ?_;refine wpAnyH_ready (rs:=[13]) AV AX ?_;refine AllReadyH.cons rfl (fun K I=>?_) AllReadyH.nil;go_simp;refine(Jq j (R a) (IntKind.u64.wrap h) z c O J _ pa (by rw[IntKind.wrap_u64];omega) (by rw[IntKind.wrap_u64];omega) ?q1 ?q2 ?q3 ?q4 ?q5).mono ?_
 case q1=>exact e1
 case q2=>exact e2
 case q3=>exact e3
 case q4=>exact e4
 case q5=>exact eg
 rintro e l⟨rfl,N⟩;have x:Hid _:=N;clear N;go_wp2_with fail;refine I.out _ _ (by rw[x.out];exact .inr (Cr zC BJ.drew)) (fun s=>?_);clear I K;refine wpAnyH_done AV ?_ _;go_end0;refine⟨rfl,?_⟩;rw[x.out];exact Cr o n.drew
theorem WN(h l r d a b:Nat)(op B Y:Int)(R:Nat->Int)(z c Z U:Bool)(w:World)(hd:d<8)(ha:a<8)(hb:b<8)(n:h<w.heap.size)(y:l<w.heap.size)(o:h≠l)(pa:0<=R a)(pb:0<=R b)(D:R b<=18446744073709551615)
 (I:w.cell? (Va h 0)=some (Vs l 8 r))(ra:w.cell? (Va l a)=some (.int .u64 (R a)))(rb:w.cell? (Va l b)=some (.int .u64 (R b)))(rd:w.cell? (Va l d)=some (.int .u64 (R d)))(A:w.frozen? (Va l d)=false)(N:w.cell? (Va h 1)=some (.bool z))(O:w.cell? (Va h 2)=some (.bool c))(Q:w.cell? (Va h 3)=some (.bool Z))(S:w.cell? (Va h 4)=some (.bool U))(X:∀i,w.frozen? (Va h i)=false):
 Calls Tryz.prog 125 #[Vq h,.agg #[Vi op,Vi d,Vi a,Vi b,Vi B,Vi Y]] w fun e j=>e=.returned (.tuple #[])/\Below w.heap.size ((flagged w h (Ep (R a) (R b)) (borrow (R a) (R b))).setCell (Va l d) (.int .u64 (Ep (R a) (R b)))) j:=by
 have ae:(d:Int)<8:=AB;have ac:(a:Int)<8:=AB;have ad:(b:Int)<8:=AB;go_enter Tryz.func125,Tryz.ntmps125;go_wp2_with fail;generalize q:w.alloc (.cells #[Vi op,Vi d,Vi a,Vi b,Vi B,Vi Y] 109)=k;have m:Bw w k:=by rw[<-q];exact Ai
 have E:w.heap.size<k.heap.size:=by rw[<-q];simp
 have zC:h<k.heap.size:=AB;have zR:l<k.heap.size:=AB;have j1:k.cell? ⟨w.heap.size,1,none⟩=some (Vi d):=by rw[<-q];simp[go_sem]
 have j2:k.cell? ⟨w.heap.size,2,none⟩=some (Vi a):=by rw[<-q];simp[go_sem]
 have j3:k.cell? ⟨w.heap.size,3,none⟩=some (Vi b):=by rw[<-q];simp[go_sem]
 have J:=(m.cell (p:=Va h 0) n).trans I;have L:=(m.cell (p:=Va l a) y).trans ra;have M:=(m.cell (p:=Va l b) y).trans rb;have e1:k.drew.cell? (Va h 1)=_:=(m.cell (p:=Va h 1) n).trans N;have e2:k.drew.cell? (Va h 2)=_:=(m.cell (p:=Va h 2) n).trans O;have e3:k.drew.cell? (Va h 3)=_:=(m.cell (p:=Va h 3) n).trans Q;have e4:k.drew.cell? (Va h 4)=_:=(m.cell (p:=Va h 4) n).trans S;have eg:∀i,k.drew.frozen? (Va h i)=false:=fun i=>(m.frozen (p:=Va h i) n).trans (X i)
 have R0:∀j,Two k (flagged k h (Ep (R a) (R b)) (borrow (R a) (R b))) j->j.cell? (Va h 0)=some (Vs l 8 r):=fun j t=>t.cell (p:=Va h 0) zC J ((Bg (fun _=>⟨AX,AX,AX,AX⟩)).trans J)
 have S1:∀j,Two k (flagged k h (Ep (R a) (R b)) (borrow (R a) (R b))) j->j.cell? ⟨w.heap.size,1,none⟩=some (Vi d):=fun j t=>t.cell (p:=⟨w.heap.size,1,none⟩) E j1 ((Bg (fun e=>absurd e (by simp;omega))).trans j1)
 have S2:∀j,Two k (flagged k h (Ep (R a) (R b)) (borrow (R a) (R b))) j->j.cell? ⟨w.heap.size,2,none⟩=some (Vi a):=fun j t=>t.cell (p:=⟨w.heap.size,2,none⟩) E j2 ((Bg (fun e=>absurd e (by simp;omega))).trans j2)
 have S3:∀j,Two k (flagged k h (Ep (R a) (R b)) (borrow (R a) (R b))) j->j.cell? ⟨w.heap.size,3,none⟩=some (Vi b):=fun j t=>t.cell (p:=⟨w.heap.size,3,none⟩) E j3 ((Bg (fun e=>absurd e (by simp;omega))).trans j3)
 have R5:∀j,Two k (flagged k h (Ep (R a) (R b)) (borrow (R a) (R b))) j->j.cell? (Va l a)=some (.int .u64 (R a)):=fun j t=>t.cell (p:=Va l a) zR L ((Bg (fun e=>absurd e (Ne.symm o))).trans L)
 have R6:∀j,Two k (flagged k h (Ep (R a) (R b)) (borrow (R a) (R b))) j->j.cell? (Va l b)=some (.int .u64 (R b)):=fun j t=>t.cell (p:=Va l b) zR M ((Bg (fun e=>absurd e (Ne.symm o))).trans M)
 have ed:=(m.cell (p:=Va l d) y).trans rd;have ef:=(m.frozen (p:=Va l d) y).trans A;clear q I ra rb rd A N O Q S X;refine BH (T:=fun j=>Two k (flagged k h (Ep (R a) (R b)) (borrow (R a) (R b))) j) (s:=28) AV (.inl BJ.drew) (fun hHeld=>?_);refine NU [0,1,2,3,4,5,6,7,8,9,10,11,12,13,14,15,16,17,18,19,20,21,22,23,24,25] ?_;refine Ah (i:=26) rfl AV (fun K x=>?_);go_simp;refine(Jq h (R a) (R b) z c Z U _ pa pb D ?q1 ?q2 ?q3 ?q4 ?q5).mono ?_
 case q1=>exact e1
 case q2=>exact e2
 case q3=>exact e3
 case q4=>exact e4
 case q5=>exact eg
 rintro e j⟨rfl,C⟩;have F:Hid _:=C;have aa:j.cell? (Va l d)=some (.int .u64 (R d)):=by rw[C];exact(Bg (fun e=>absurd e (Ne.symm o))).trans ed
 have ab:j.frozen? (Va l d)=false:=by rw[C,OX];exact ef
 clear C;go_wp2_with fail;refine x.out _ _ (by rw[F.out];exact .inr (Cr zC BJ.drew)) (fun u=>?_);clear x K;refine BR 27 ?_;refine BD rfl AV AV (fun K x=>?_);go_simp;refine x.out _ _ ?_;clear x K;go_end0;refine⟨rfl,?_⟩;rw[F.out];exact Dp (Cr n m.drew) y _
def Bc(w:World)(b:Nat)(v:Value)(ty:Nat):Prop:=w.heap[b]?=some (.cells #[v] ty (0,0))
theorem Bc.cell{a:Nat}(h:Bc w b v a):w.cell? (Va b 0)=some v:=by
 rw[cell_of_row w b 0 #[v] a (0,0) h];rfl
theorem Bc.lt{a:Nat}(h:Bc w b v a):b<w.heap.size:=(I8.1 h).1
theorem Bc.below{a:Nat}(h:Bc w b v a)(c:Below w.heap.size w j):Bc j b v a:=(c.block b h.lt).trans h
theorem Bc.kept{a:Nat}(h:Bc w b v a){u:Value}(x:w.ownsRow l e s u n d)(p:w.grownBy w' u.ownBlock)(j:e≠a∨1<n*s):Bc w' b v a:=by
 refine(p.block b h.lt fun q=>?_).trans h;rcases x.2 with⟨rfl,_⟩|⟨g,k,o,rfl,_,c,r,_,m,_⟩
 ·simp[Value.ownBlock]at q
 ·simp only[Value.ownBlock,Option.some.injEq]at q
  subst q;rw[h]at c;simp only[Option.some.injEq,Obj.cells.injEq]at c;rcases j with j|j
  ·exact j c.2.1.symm
  ·rw[<-c.1]at m
   have:n*s<=k*s:=Nat.mul_le_mul_right _ r;simp at m;omega
abbrev ZT:=Sum Nat (Sum (Nat×Value×Nat) (Nat×Value×Nat×Value×Nat))
abbrev ZT.plain(f:Nat):ZT:=.inl f
abbrev ZT.one(f:Nat)(v:Value)(ty:Nat):ZT:=.inr (.inl (f,v,ty))
abbrev ZT.two(f:Nat)(v:Value)(ty:Nat)(v':Value)(ty':Nat):ZT:=.inr (.inr (f,v,ty,v',ty'))
def KY(f:Nat):Value:=.func (.func f) #[] #[]
def ent:Nat->ZT
 |1=>.plain 110
 |2=>.plain 111
 |3=>.one 164 (KY 113) 222
 |4=>.one 164 (KY 114) 222
 |5=>.one 164 (KY 115) 222
 |6=>.one 164 (KY 116) 222
 |7=>.one 164 (KY 117) 222
 |8=>.one 164 (KY 118) 222
 |9=>.plain 119
 |10=>.one 167 (KY 113) 222
 |11=>.one 167 (KY 116) 222
 |12=>.one 167 (KY 121) 222
 |13=>.one 167 (KY 122) 222
 |14=>.plain 123
 |15=>.plain 124
 |16=>.plain 125
 |17=>.plain 126
 |18=>.plain 127
 |19=>.one 170 (KY 129) 253
 |20=>.one 170 (KY 130) 253
 |21=>.two 172 (KY 132) 255 (.int .u64 1) 45
 |22=>.two 172 (KY 132) 255 (.int .u64 8) 45
 |23=>.two 174 (KY 132) 255 (.int .u64 1) 45
 |24=>.two 174 (KY 132) 255 (.int .u64 8) 45
 |25=>.two 172 (KY 134) 255 (.int .u64 1) 45
 |26=>.two 172 (KY 134) 255 (.int .u64 8) 45
 |27=>.two 174 (KY 134) 255 (.int .u64 1) 45
 |28=>.two 174 (KY 134) 255 (.int .u64 8) 45
 |29=>.plain 135
 |30=>.two 175 (KY 129) 253 (.bool true) 4
 |31=>.two 175 (KY 129) 253 (.bool false) 4
 |32=>.two 175 (KY 130) 253 (.bool true) 4
 |33=>.two 175 (KY 130) 253 (.bool false) 4
 |_=>.plain 137
def Dh(ty:Nat):Prop:=ty≠47/\ty≠5/\ty≠213/\ty≠101
def Cw(w:World)(base:Nat)(v:Value):ZT->Prop
 |.inl f=>v=.func (.func f) #[] #[]
 |.inr (.inl (f,u,ty))=>Dh ty/\∃b,base<=b/\Bc w b u ty/\v=.func (.func f) #[] #[Vq b]
 |.inr (.inr (f,u,ty,u',ty'))=>Dh ty/\Dh ty'/\∃b b',base<=b/\base<=b'/\Bc w b u ty/\Bc w b' u' ty'/\v=.func (.func f) #[] #[Vq b,Vq b']
theorem Cw.kept{e:ZT}(h:Cw w l v e)(k:∀b u d,Dh d->Bc w b u d->Bc w' b u d):Cw w' l v e:=by
 rcases e with f|⟨f,u,d⟩|⟨f,u,d,s,r⟩
 ·exact h
 ·obtain⟨a,b,j,m,n⟩:=h;exact⟨a,b,j,k _ _ _ a m,n⟩
 ·obtain⟨a,c,b,o,j,m,n,p,q⟩:=h;exact⟨a,c,b,o,j,m,k _ _ _ a n,k _ _ _ c p,q⟩
def kX(w:World)(base:Nat)(tab:List Value):Prop:=tab.length=35/\∀op,1<=op->op<=34->∃v,tab[op]?=some v/\Cw w base v (ent op)
theorem kX.kept{Q:List Value}(h:kX w l Q)(k:∀b u a,Dh a->Bc w b u a->Bc w' b u a):kX w' l Q:=
 ⟨h.1,fun m c d=>by obtain⟨v,j,e⟩:=h.2 m c d;exact⟨v,j,e.kept k⟩⟩
def XU(p:Pl)(M:MV)(nx:Int)(tab:List Value):List Value:=
 Vs p.bR 8 p.cR::.bool M.z::.bool M.c::.bool M.hz::.bool M.hc::.slice p.aH M.nH p.cH::Vi M.pc::Vi M.st::.slice p.aO M.nO p.cO::Vi nx::tab
structure Core(w:World)(base bC:Nat)(p:Pl)(nx:Int)(tab:List Value)(M:MV):Prop where
 mem:Mem w base p M
 core:w.ownsRow base 101 45 (Vs bC 1 1) 1 (XU p M nx tab)
 tab:kX w base tab
section
variable{w w':World}{base bC:Nat}{p:Pl}{nx:Int}{tab:List Value}{M:MV}
theorem Core.below(h:Core w base bC p nx tab M)(a:Below w.heap.size w w'):Core w' base bC p nx tab M:=
 ⟨h.mem.below a,Av h.core a,h.tab.kept fun _ _ _ _ b=>b.below a⟩
theorem Core.lt(h:Core w base bC p nx tab M):base<=bC/\bC<w.heap.size:=h.core.lt bC rfl
theorem Core.ltR(h:Core w base bC p nx tab M):base<=p.bR/\p.bR<w.heap.size:=h.mem.regs.lt p.bR rfl
theorem Core.size(h:Core w base bC p nx tab M):base<=w.heap.size:=Nat.le_of_lt (Nat.lt_of_le_of_lt h.lt.1 h.lt.2)
theorem Core.neR(h:Core w base bC p nx tab M):bC≠p.bR:=by
 have:=Fu (Aj h.core h.mem.regs Ad);simpa[Value.ownBlock]using this
theorem Core.neO(h:Core w base bC p nx tab M):some bC≠(Value.slice p.aO M.nO p.cO).ownBlock:=Fu (Aj h.core h.mem.obs Ad)
theorem Core.reg(h:Core w base bC p nx tab M){i:Nat}(a:i<8):w.cell? ⟨p.bR,i,none⟩=some (.int .u64 (M.R i)):=by
 rw[h.mem.regs.cellAt i AB,G6 a];rfl
theorem Core.free(h:Core w base bC p nx tab M)(i:Nat):w.frozen? (Va bC i)=false:=h.core.frozenAt i
theorem Core.freeR(h:Core w base bC p nx tab M)(i:Nat):w.frozen? ⟨p.bR,i,none⟩=false:=h.mem.regs.frozenAt i
theorem Core.c0(h:Core w base bC p nx tab M):w.cell? (Va bC 0)=some (Vs p.bR 8 p.cR):=h.core.cellAt 0 Ad
theorem Core.c1(h:Core w base bC p nx tab M):w.cell? (Va bC 1)=some (.bool M.z):=h.core.cellAt 1 Ad
theorem Core.c2(h:Core w base bC p nx tab M):w.cell? (Va bC 2)=some (.bool M.c):=h.core.cellAt 2 Ad
theorem Core.c3(h:Core w base bC p nx tab M):w.cell? (Va bC 3)=some (.bool M.hz):=h.core.cellAt 3 Ad
theorem Core.c4(h:Core w base bC p nx tab M):w.cell? (Va bC 4)=some (.bool M.hc):=h.core.cellAt 4 Ad
theorem Core.c5(h:Core w base bC p nx tab M):w.cell? (Va bC 5)=some (.slice p.aH M.nH p.cH):=h.core.cellAt 5 Ad
theorem Core.c6(h:Core w base bC p nx tab M):w.cell? (Va bC 6)=some (Vi M.pc):=h.core.cellAt 6 Ad
theorem Core.c7(h:Core w base bC p nx tab M):w.cell? (Va bC 7)=some (Vi M.st):=h.core.cellAt 7 Ad
theorem Core.c8(h:Core w base bC p nx tab M):w.cell? (Va bC 8)=some (.slice p.aO M.nO p.cO):=h.core.cellAt 8 Ad
theorem Core.c9(h:Core w base bC p nx tab M):w.cell? (Va bC 9)=some (Vi nx):=h.core.cellAt 9 Ad
theorem Core.setR(h:Core w base bC p nx tab M)(d:Nat)(v:Int):Core (w.setCell ⟨p.bR,d,none⟩ (.int .u64 v)) base bC p nx tab (M.setR d v):=by
 have a:=(h.mem.regs.stored d (.int .u64 v)).2;exact⟨h.mem.setR d v,h.core.kept a (Aj h.core h.mem.regs Ad),h.tab.kept fun _ _ _ _ b=>b.kept h.mem.regs a (.inr Ad)⟩
theorem Core.poke(h:Core w base bC p nx tab M)(a:k<M.nH)(j:Nat)(u:Int):Core (w.setCell ⟨p.blk k,j,none⟩ (.int .u8 u)) base bC p nx tab (M.poke k j u):=by
 have b:=((h.mem.data k a).stored j (.int .u8 u)).2;exact⟨h.mem.poke a j u,h.core.kept b (Aj h.core (h.mem.data k a) Ad),h.tab.kept fun _ _ _ d c=>c.kept (h.mem.data k a) b (.inl (Ne.symm d.2.1))⟩
theorem Core.put(h:Core w base bC p nx tab M)(j:Nat)(u:Value){k:Int}{a:MV}(l:∀v,Mem v base p M->Mem v base p a)(e:(XU p M nx tab).set j u=XU p a k tab):Core (w.setCell (Va bC j) u) base bC p k tab a:=by
 obtain⟨b,c⟩:=h.core.stored j u;rw[e]at b;exact⟨l _ (h.mem.other h.core c Ad Ad Ad Ad),b,h.tab.kept fun _ _ _ m d=>d.kept h.core c (.inl (Ne.symm m.2.2.2))⟩
theorem Core.next(h:Core w base bC p nx tab M)(v:Int):Core (w.setCell (Va bC 9) (Vi v)) base bC p v tab M:=h.put 9 _ (fun _ q=>q) rfl
theorem Core.setSt(h:Core w base bC p nx tab M)(v:Int):Core (w.setCell (Va bC 7) (Vi v)) base bC p nx tab {M with st:=v}:=h.put 7 _ (fun _ q=>⟨q.regs,q.heaps,q.data,q.obs,q.ne⟩) rfl
theorem Core.setPc(h:Core w base bC p nx tab M)(v:Int):Core (w.setCell (Va bC 6) (Vi v)) base bC p nx tab {M with pc:=v}:=h.put 6 _ (fun _ q=>⟨q.regs,q.heaps,q.data,q.obs,q.ne⟩) rfl
theorem Core.setZ(h:Core w base bC p nx tab M)(v:Bool):Core (w.setCell (Va bC 1) (.bool v)) base bC p nx tab {M with z:=v}:=h.put 1 _ (fun _ q=>⟨q.regs,q.heaps,q.data,q.obs,q.ne⟩) rfl
theorem Core.setC(h:Core w base bC p nx tab M)(v:Bool):Core (w.setCell (Va bC 2) (.bool v)) base bC p nx tab {M with c:=v}:=h.put 2 _ (fun _ q=>⟨q.regs,q.heaps,q.data,q.obs,q.ne⟩) rfl
theorem Core.setHz(h:Core w base bC p nx tab M)(v:Bool):Core (w.setCell (Va bC 3) (.bool v)) base bC p nx tab {M with hz:=v}:=h.put 3 _ (fun _ q=>⟨q.regs,q.heaps,q.data,q.obs,q.ne⟩) rfl
theorem Core.setHc(h:Core w base bC p nx tab M)(v:Bool):Core (w.setCell (Va bC 4) (.bool v)) base bC p nx tab {M with hc:=v}:=h.put 4 _ (fun _ q=>⟨q.regs,q.heaps,q.data,q.obs,q.ne⟩) rfl
theorem Core.flagged(h:Core w base bC p nx tab M)(r k:Int):Core (flagged w bC r k) base bC p nx tab (M.flags r (k !=0)):=
 (((h.setZ (r==0)).setHz true).setC (k !=0)).setHc true
theorem Core.seen(h:Core w base bC p nx tab M){b:Int}(o:Seen base bC M.nO (.slice p.aO M.nO p.cO) (first (M.nO*2) (Dg M.K M.V)) b val w w'):
 ∃g a,Core w' base bC {p with aO:=some ⟨g,0,none⟩,cO:=a} nx tab (M.see b val):=by
 obtain⟨y,k,m,d,n⟩:=o;obtain⟨g,a,rfl⟩:=KE m;refine⟨g,a,?_⟩;have q:=h.mem.see m d;have j:=h.core.kept d (Aj h.core h.mem.obs Ad);have u:kX k base tab:=h.tab.kept fun _ _ _ e c=>c.kept h.mem.obs d (.inl (Ne.symm e.2.2.1))
 obtain⟨s,l⟩:=j.stored 8 (Vs g (M.nO+1) a);have r:=q.other j l Ad Ad Ad Ad;have x:=u.kept (w':=k.setCell (Va bC 8) (Vs g (M.nO+1) a)) fun _ _ _ e c=>c.kept j l (.inl (Ne.symm e.2.2.2))
 have c:Core (k.setCell (Va bC 8) (Vs g (M.nO+1) a)) base bC {p with aO:=some ⟨g,0,none⟩,cO:=a} nx tab (M.see b val):=⟨r,s,x⟩
 exact c.below (by simpa using n)
def K5(w w':World):Prop:=∀(k:Nat)(cur:Array Value)(ty:Nat)(fr:Nat×Nat),w.heap[k]?=some (.cells cur ty fr)->Dh ty->ty≠45->w'.heap[k]?=some (.cells cur ty fr)
theorem K5.below(a:Below w.heap.size w j):K5 w j:=fun k _ _ _ h _ _=>(a.block k (I8.1 h).1).trans h
theorem K5.row(h:w.ownsRow l e s v n d)(x:w.grownBy j v.ownBlock)(u:∀b,Dh b->b≠45->e≠b):K5 w j:=by
 intro k r b C c z A;refine(x.block k (I8.1 c).1 fun q=>?_).trans c;rcases h.2 with y|⟨g,p,m,B,D,a,o⟩
 ·rw[y.1]at q;cases q
 ·rw[B]at q
  have:k=g:=by simpa[Value.ownBlock]using q
  subst this;rw[c]at a;simp only[Option.some.injEq,Obj.cells.injEq]at a;exact u b z A a.2.1.symm
def Keep(w w':World):Prop:=(∀b u ty,Dh ty->Bc w b u ty->Bc w' b u ty)/\K5 w w'
theorem Keep.trans{a b c:World}(h:Keep a b)(k:Keep b c):Keep a c:=⟨fun _ _ _ d j=>k.1 _ _ _ d (h.1 _ _ _ d j),fun _ _ _ _ l d e=>k.2 _ _ _ _ (h.2 _ _ _ _ l d e) d e⟩
theorem Keep.below(a:Below w.heap.size w j):Keep w j:=⟨fun _ _ _ _ b=>b.below a,K5.below a⟩
theorem Core.keepR(h:Core w base bC p nx tab M)(d:Nat)(v:Int):Keep w (w.setCell ⟨p.bR,d,none⟩ (.int .u64 v)):=
 ⟨fun _ _ _ _ a=>a.kept h.mem.regs (h.mem.regs.stored d (.int .u64 v)).2 (.inr Ad),K5.row h.mem.regs (h.mem.regs.stored d (.int .u64 v)).2 fun _ _ b=>Ne.symm b⟩
theorem Core.keepD(h:Core w base bC p nx tab M)(a:k<M.nH)(j:Nat)(u:Int):Keep w (w.setCell ⟨p.blk k,j,none⟩ (.int .u8 u)):=
 ⟨fun _ _ _ b c=>c.kept (h.mem.data k a) ((h.mem.data k a).stored j (.int .u8 u)).2 (.inl (Ne.symm b.2.1)),K5.row (h.mem.data k a) ((h.mem.data k a).stored j (.int .u8 u)).2 fun _ b _=>Ne.symm b.2.1⟩
theorem Core.keepC(h:Core w base bC p nx tab M)(j:Nat)(u:Value):Keep w (w.setCell (Va bC j) u):=
 ⟨fun _ _ _ a b=>b.kept h.core (h.core.stored j u).2 (.inl (Ne.symm a.2.2.2)),K5.row h.core (h.core.stored j u).2 fun _ a _=>Ne.symm a.2.2.2⟩
theorem Core.keepF(h:Core w base bC p nx tab M)(r k:Int):Keep w (Go.Proofs.YtjoppncopoampaaGreatDoor.flagged w bC r k):=
 (((h.keepC 1 _).trans ((h.setZ (r==0)).keepC 3 _)).trans (((h.setZ (r==0)).setHz true).keepC 2 _)).trans ((((h.setZ (r==0)).setHz true).setC (k !=0)).keepC 4 _)
theorem Core.keepS(h:Core w base bC p nx tab M){b:Int}(m:Seen base bC M.nO (.slice p.aO M.nO p.cO) (first (M.nO*2) (Dg M.K M.V)) b val w w'):Keep w w':=by
 obtain⟨j,k,q,d,l⟩:=m;have c:=h.core.kept d (Aj h.core h.mem.obs Ad);have n:Keep w k:=⟨fun _ _ _ a e=>e.kept h.mem.obs d (.inl (Ne.symm a.2.2.1)),K5.row h.mem.obs d fun _ a _=>Ne.symm a.2.2.1⟩
 have o:Keep k (k.setCell (Va bC 8) j):=⟨fun _ _ _ a e=>e.kept c (c.stored 8 j).2 (.inl (Ne.symm a.2.2.2)),K5.row c (c.stored 8 j).2 fun _ a _=>Ne.symm a.2.2.2⟩
 exact(n.trans o).trans (Keep.below (by simpa using l))
theorem Seen.below{h:Value}{b:Int}(s:Seen l c n h d b val w j)(m:l<=w.heap.size)(p:l<=c)(r:w.ownsRow l 213 2 h n d):Below l w j:=by
 obtain⟨x,u,_,e,a⟩:=s;have o:Below l w u:=BJ.grown e m (fun k q=>(r.lt k q).1);exact(o.setCell (by simpa using p) _).trans (a.mono (Nat.le_trans m e.size))
end
abbrev Ia:=Sum (MV×Int) MV
abbrev Ia.done(M:MV)(nx:Int):Ia:=.inl (M,nx)
abbrev Ia.flt(M:MV):Ia:=.inr M
def Hu(f:Nat->Int)(o:Nat):Nat->Int
 |0=>0
 |k+1=>Hu f o k+f (o+k)*2^(8*k)
def MV.pokeN(M:MV)(h o:Nat)(v:Int):Nat->MV
 |0=>M
 |k+1=>(M.pokeN h o v k).poke h (o+k) (v/2^(8*k)%256)
def Cm(store:Bool)(width:Nat)(addr:Int)(d h:Nat)(M:MV)(nx:Int):Ia:=
 if M.nH<=h then .flt (M.see 1 addr)
 else if lies (M.Hp h).base addr width (M.Hp h).len&&(!store||(M.Hp h).wr)then
  if store then .done ((M.see 1 addr).pokeN h (addr-(M.Hp h).base).toNat (M.R d) width) nx
  else .done ((M.see 1 addr).setR d (Hu (M.Hp h).dat (addr-(M.Hp h).base).toNat width)) nx
 else .flt (M.see 1 addr)
def Da(has flag wanted:Bool)(imm:Int)(M:MV)(nx:Int):Ia:=
 if has then(if flag==wanted then .done (M.see 2 1) imm else .done (M.see 2 0) nx)else .flt M
def FK(M:MV)(a:Nat)(imm:Int):Int:=IntKind.u64.wrap (M.R a+IntKind.u64.wrap imm)
def FJ(M:MV)(a b:Nat):Int:=IntKind.u64.wrap (M.R a+M.R b)
def exec(op d a b h:Nat)(imm:Int)(M:MV)(nx:Int):Ia:=
 match op with
 |1=>.done (M.setR d (M.R a)) nx
 |2=>.done (M.setR d (IntKind.u64.wrap imm)) nx
 |3=>.done (M.setR d (IntKind.u64.wrap (M.R a+M.R b))) nx
 |4=>.done (M.setR d (IntKind.u64.wrap (M.R a-M.R b))) nx
 |5=>.done (M.setR d (IntKind.u64.wrap (M.R a*M.R b))) nx
 |6=>.done (M.setR d (bits BinOp.and IntKind.u64 (M.R a) (M.R b))) nx
 |7=>.done (M.setR d (bits BinOp.or IntKind.u64 (M.R a) (M.R b))) nx
 |8=>.done (M.setR d (bits BinOp.xor IntKind.u64 (M.R a) (M.R b))) nx
 |9=>.done ((M.see 3 (DZ (M.R a).toNat*65+DZ (M.R b).toNat)).setR d (if M.R b=0 then 0 else M.R a/M.R b)) nx
 |10=>.done (M.setR d (IntKind.u64.wrap (M.R a+IntKind.u64.wrap imm))) nx
 |11=>.done (M.setR d (bits BinOp.and IntKind.u64 (M.R a) (IntKind.u64.wrap imm))) nx
 |12=>.done (M.setR d (IntKind.u64.wrap (M.R a*2^(IntKind.u64.wrap imm).toNat))) nx
 |13=>.done (M.setR d (M.R a/2^(IntKind.u64.wrap imm).toNat)) nx
 |14=>.done ((M.setR d (Ih (M.R a) (M.R b) 0)).flags (Ih (M.R a) (M.R b) 0) (carry (M.R a) (M.R b) 0 !=0)) nx
 |15=>if M.hc then .done ((M.setR d (Ih (M.R a) (M.R b) (if M.c then 1 else 0))).flags (Ih (M.R a) (M.R b) (if M.c then 1 else 0)) (carry (M.R a) (M.R b) (if M.c then 1 else 0) !=0)) nx else .flt M
 |16=>.done ((M.flags (Ep (M.R a) (M.R b)) (borrow (M.R a) (M.R b) !=0)).setR d (Ep (M.R a) (M.R b))) nx
 |17=>.done (M.flags (Ep (M.R a) (M.R b)) (borrow (M.R a) (M.R b) !=0)) nx
 |18=>.done (M.flags (Ep (M.R a) (IntKind.u64.wrap imm)) (borrow (M.R a) (IntKind.u64.wrap imm) !=0)) nx
 |19=>if M.hz then .done (M.setR d (if M.z then M.R a else M.R b)) nx else .flt M
 |20=>if M.hc then .done (M.setR d (if M.c then M.R a else M.R b)) nx else .flt M
 |21=>Cm false 1 (FK M a imm) d h M nx
 |22=>Cm false 8 (FK M a imm) d h M nx
 |23=>Cm true 1 (FK M a imm) d h M nx
 |24=>Cm true 8 (FK M a imm) d h M nx
 |25=>Cm false 1 (FJ M a b) d h M nx
 |26=>Cm false 8 (FJ M a b) d h M nx
 |27=>Cm true 1 (FJ M a b) d h M nx
 |28=>Cm true 8 (FJ M a b) d h M nx
 |29=>.done M imm
 |30=>Da M.hz M.z true imm M nx
 |31=>Da M.hz M.z false imm M nx
 |32=>Da M.hc M.c true imm M nx
 |33=>Da M.hc M.c false imm M nx
 |_=>.done {M with st:=1} M.pc
structure MV.Ok(M:MV):Prop where
 reg:∀i,i<8->0<=M.R i/\M.R i<=18446744073709551615
 heaps:M.nH<=8
 heap:∀i,i<M.nH->0<=(M.Hp i).base/\1<=(M.Hp i).len/\(M.Hp i).len<=4096/\(M.Hp i).base+(M.Hp i).len<=18446744073709551615
 dat:∀i,i<M.nH->∀j,j<(M.Hp i).len->0<=(M.Hp i).dat j/\(M.Hp i).dat j<=255
def Mf(base bC:Nat)(tab:List Value)(w:World)(o:Ia)(e:Ending)(w':World):Prop:=
 Below base w w'/\Keep w w'/\match o with
  |.inl (M,nx)=>e=.returned (.tuple #[])/\∃p,Core w' base bC p nx tab M
  |.inr M=>e=.panicked [{v:=.iface 163 (.agg #[]),recovered:=false}]/\∃p nx,Core w' base bC p nx tab M
theorem Du(x:Int):0<=IntKind.u64.wrap x/\IntKind.u64.wrap x<=18446744073709551615:=by
 have h:IntKind.u64.wrap x=x%18446744073709551616:=by rfl
 rw[h];omega
theorem LW{B:Nat}(h:w.ownsRow l e s v n d)(q:∀k,v.ownBlock=some k->k<B)(o:Below B w j):j.ownsRow l e s v n d:=by
 refine⟨h.1,?_⟩;rcases h.2 with r|⟨g,b,c,rfl,m,p,a⟩
 ·exact .inl r
 ·exact .inr ⟨g,b,c,rfl,m,(o.block g (q g rfl)).trans p,a⟩
theorem Mem.setLow{p:Pl}{M:MV}(h:Mem w l p M){a:Addr}(b:a.block<l)(v:Value):Mem (w.setCell a v) l p M:=
 ⟨ownsRow_setCell_below h.regs b v,ownsRow_setCell_below h.heaps b v,fun i c=>ownsRow_setCell_below (h.data i c) b v,ownsRow_setCell_below h.obs b v,h.ne⟩
theorem G8(h:w.ownsRow l e s v n d)(j:0<n):∃g c,v=Vs g n c:=by
 rcases h.2 with⟨_,rfl⟩|⟨g,a,b,rfl,_⟩
 ·omega
 ·exact⟨_,_,rfl⟩
theorem KD(h:w.ownsRow l e s v n d):∃a c,v=.slice a n c:=by
 rcases h.2 with⟨rfl,rfl⟩|⟨g,b,j,rfl,_⟩
 ·exact⟨_,_,rfl⟩
 ·exact⟨_,_,rfl⟩
def mix(Hp:Nat->Bv)(hA:Nat->Option Addr)(hC blk cap:Nat->Nat)(k i:Nat):Bv:=if i<k then place Hp blk cap i else(Hp i).put (hA i) (hC i)
theorem ig(c:Nat->Bv)(d:Nat->Option Addr)(e a b:Nat->Nat):mix c d e a b 0=fun i=>(c i).put (d i) (e i):=by
 funext i;simp[mix]
theorem YV(f:Nat->Bv)(i:Nat):(CO f i).oneCell'=true:=by
 unfold CO;split
 ·rfl
 ·split<;>rfl
theorem UK(K V:Nat->Int)(i:Nat):(Dg K V i).oneCell'=true:=by
 unfold Dg;split<;>rfl
theorem iD(j:Nat->Bv)(m:Nat->Option Addr)(n a d:Nat->Nat)(k b c q:Nat):
 (if q=k*3+2 then Vs b (j k).len c else CO (mix j m n a d k) q)=CO (mix j m n (fun i=>if i=k then b else a i) (fun i=>if i=k then c else d i) (k+1)) q:=by
 by_cases e:q=k*3+2
 ·subst e
  rw[if_pos rfl,GD];simp[mix,place]
 ·rw[if_neg e]
  unfold CO;have o:q/3=k->q%3=0∨q%3=1:=fun h=>by omega
  by_cases l:q/3=k
  ·rcases o l with h|h<;>simp[h,l,mix,place,Bv.put]
  ·have:q/3<k+1↔q/3<k:=AB
   simp[mix,place,l,this]
theorem Sq(Y:Option Addr)(Z bR nR:Nat)(R:Nat->Int)(z c hz hc:Bool)(B:Option Addr)(C bH nH:Nat)(Hp:Nat->Bv)(Q:Nat->Option Addr)(A:Nat->Nat)(pc st:Int)(n:Option Addr)(o bO nO:Nat)(K V:Nat->Int)(w:World)(aP:nR=8)(aU:nH<=8)(aN:nO<=1048576)(ae:∀i,i<nH->1<=(Hp i).len/\(Hp i).len<=4096)(hm:Hf w Y Z bR nR R B C bH nH Hp Q A n o bO nO K V):
 Calls Tryz.prog 67 #[.agg #[.slice Y nR Z,.bool z,.bool c,.bool hz,.bool hc,.slice B nH C,.int .i64 pc,.int .i64 st,.slice n nO o]] w fun e l=>∃p:Pl,
  e=.returned (.agg #[.slice (some ⟨p.bR,0,none⟩) 8 p.cR,.bool z,.bool c,.bool hz,.bool hc,.slice p.aH nH p.cH,.int .i64 pc,.int .i64 st,.slice p.aO nO p.cO])/\Below w.heap.size w l/\Mem l w.heap.size p {R:=R,z:=z,c:=c,hz:=hz,hc:=hc,nH:=nH,Hp:=Hp,pc:=pc,st:=st,nO:=nO,K:=K,V:=V}:=by
 subst aP;have HM:Hid (Hf w Y Z bR 8 R B C bH nH Hp Q A n o bO nO K V):=hm;have HL:Hid (∀i,i<nH->1<=(Hp i).len/\(Hp i).len<=4096):=ae;clear hm ae;go_enter Tryz.func67,Tryz.ntmps67;go_wp2_with fail;generalize J:(w.alloc (.cells #[.slice Y 8 Z,.bool z,.bool c,.bool hz,.bool hc,.slice B nH C,.int .i64 pc,.int .i64 st,.slice n nO o] 32)).alloc (.cells #[.slice none 0 0,.bool false,.bool false,.bool false,.bool false,.slice none 0 0,.int .i64 0,.int .i64 0,.slice none 0 0] 32)=y;have b0:Bw w y:=by rw[<-J];exact(BJ.alloc (Nat.le_refl _) _).alloc AX _
 have z0:y.heap.size=w.heap.size+2:=by rw[<-J];simp
 refine(oP _ bR 8 _ (EU .u64 R) y AB HM.eR (HM.below b0 (Nat.le_refl _)).regs.at (fun _=>rfl)).mono ?_;rintro e a⟨v',rfl,o1,b1,_⟩;obtain⟨d,cR,rfl⟩:=KE o1;have ar:Hid (y.ownsRow w.heap.size 32 9 (.slice (some ⟨w.heap.size,0,none⟩) 1 1) 1 [.slice Y 8 Z,.bool z,.bool c,.bool hz,.bool hc,.slice B nH C,.int .i64 pc,.int .i64 st,.slice n nO o]):=by rw[<-J];exact(World.ownsRow_lit w #[.slice Y 8 Z,.bool z,.bool c,.bool hz,.bool hc,.slice B nH C,.int .i64 pc,.int .i64 st,.slice n nO o] 1 (Nat.le_refl _) (by unfold maxLen;omega) rfl).alloc _
 have av:Hid (y.ownsRow w.heap.size 32 9 (.slice (some ⟨w.heap.size+1,0,none⟩) 1 1) 1 [.slice none 0 0,.bool false,.bool false,.bool false,.bool false,.slice none 0 0,.int .i64 0,.int .i64 0,.slice none 0 0]):=by
  rw[<-J];have:=World.ownsRow_lit (base:=w.heap.size) (e:=32) (size:=9) (w.alloc (.cells #[.slice Y 8 Z,.bool z,.bool c,.bool hz,.bool hc,.slice B nH C,.int .i64 pc,.int .i64 st,.slice n nO o] 32)) #[.slice none 0 0,.bool false,.bool false,.bool false,.bool false,.slice none 0 0,.int .i64 0,.int .i64 0,.slice none 0 0] 1 AX (by unfold maxLen;omega) rfl;rw[World.size_alloc]at this;exact this
 have u:Hid (a.ownsRow w.heap.size 32 9 (.slice (some ⟨w.heap.size,0,none⟩) 1 1) 1 [.slice Y 8 Z,.bool z,.bool c,.bool hz,.bool hc,.slice B nH C,.int .i64 pc,.int .i64 st,.slice n nO o]):=Av ar b1;have aw:Hid (a.ownsRow w.heap.size 32 9 (.slice (some ⟨w.heap.size+1,0,none⟩) 1 1) 1 [.slice none 0 0,.bool false,.bool false,.bool false,.bool false,.slice none 0 0,.int .i64 0,.int .i64 0,.slice none 0 0]):=Av av b1;have q0:a.cell? ⟨w.heap.size,0,none⟩=some (.slice Y 8 Z):=u.cellAt 0 Ad;have q5:a.cell? ⟨w.heap.size,5,none⟩=some (.slice B nH C):=u.cellAt 5 Ad;have qf:∀i,a.frozen? ⟨w.heap.size,i,none⟩=false:=fun i=>u.frozenAt i
 have z1:w.heap.size+2<=a.heap.size:=by have:=b1.size;omega
 have aW:w.heap.size<a.heap.size:=AB;have am:Hid (a.ownsRow y.heap.size 45 1 (.slice (some ⟨d,0,none⟩) 8 cR) 8 (first (8*1) (EU .u64 R))):=o1;have aj:Hid (Bw w a):=b0.trans (b1.mono AB);have lR:y.heap.size<=d/\d<a.heap.size:=o1.lt d rfl;clear o1 b0 b1 ar av J;go_wp2_with fail;have ac:Hid ((a.setCell ⟨w.heap.size,0,none⟩ (.slice (some ⟨d,0,none⟩) 8 cR)).ownsRow w.heap.size 32 9 (.slice (some ⟨w.heap.size,0,none⟩) 1 1) 1 [.slice (some ⟨d,0,none⟩) 8 cR,.bool z,.bool c,.bool hz,.bool hc,.slice B nH C,.int .i64 pc,.int .i64 st,.slice n nO o]):=(u.stored 0 _).1;have ai:=(u.stored 0 (.slice (some ⟨d,0,none⟩) 8 cR)).2;have ad:Hid ((a.setCell ⟨w.heap.size,0,none⟩ (.slice (some ⟨d,0,none⟩) 8 cR)).ownsRow w.heap.size 32 9 (.slice (some ⟨w.heap.size+1,0,none⟩) 1 1) 1 [.slice none 0 0,.bool false,.bool false,.bool false,.bool false,.slice none 0 0,.int .i64 0,.int .i64 0,.slice none 0 0]):=aw.kept ai (.inr (by simp[Value.ownBlock]));have aa:Hid ((a.setCell ⟨w.heap.size,0,none⟩ (.slice (some ⟨d,0,none⟩) 8 cR)).ownsRow y.heap.size 45 1 (.slice (some ⟨d,0,none⟩) 8 cR) 8 (first (8*1) (EU .u64 R))):=am.kept ai (.inr (by simp[Value.ownBlock];omega));have D:Hid (Bw w (a.setCell ⟨w.heap.size,0,none⟩ (.slice (some ⟨d,0,none⟩) 8 cR))):=aj.setCell AX _;refine(pK _ bH nH _ (CO fun i=>(Hp i).put (Q i) (A i)) _ AB HM.eH (HM.below D (Nat.le_refl _)).heaps.at (YV _)).mono ?_;rintro e M⟨v',rfl,o2,b2,_⟩;obtain⟨aH,cH,rfl⟩:=KD o2;rw[World.size_setCell]at o2 b2;have x:Hid (M.ownsRow w.heap.size 32 9 (.slice (some ⟨w.heap.size,0,none⟩) 1 1) 1 [.slice (some ⟨d,0,none⟩) 8 cR,.bool z,.bool c,.bool hz,.bool hc,.slice B nH C,.int .i64 pc,.int .i64 st,.slice n nO o]):=Av ac (by simpa using b2);have ax:Hid (M.ownsRow w.heap.size 32 9 (.slice (some ⟨w.heap.size+1,0,none⟩) 1 1) 1 [.slice none 0 0,.bool false,.bool false,.bool false,.bool false,.slice none 0 0,.int .i64 0,.int .i64 0,.slice none 0 0]):=Av ad (by simpa using b2);have an:Hid (M.ownsRow y.heap.size 45 1 (.slice (some ⟨d,0,none⟩) 8 cR) 8 (first (8*1) (EU .u64 R))):=Av aa (by simpa using b2);have ah:Hid (M.ownsRow a.heap.size 47 3 (.slice aH nH cH) nH (first (nH*3) (CO fun i=>(Hp i).put (Q i) (A i)))):=o2;have ak:Hid (Bw w M):=D.trans (b2.mono AB);have y5:M.cell? ⟨w.heap.size,5,none⟩=some (.slice B nH C):=x.cellAt 5 Ad;have yf:∀i,M.frozen? ⟨w.heap.size,i,none⟩=false:=fun i=>x.frozenAt i
 have z2:a.heap.size<=M.heap.size:=by have:=b2.size;simpa using this
 have aV:w.heap.size<M.heap.size:=AB;clear q0 q5 qf o2 b2 ai u aw am aj ac ad aa D;go_wp2_with fail;generalize L:M.setCell ⟨w.heap.size,5,none⟩ (.slice aH nH cH)=N;have I:=(x.stored 5 (.slice aH nH cH)).2;rw[L]at I;have au:Hid (N.ownsRow w.heap.size 32 9 (.slice (some ⟨w.heap.size,0,none⟩) 1 1) 1 [.slice (some ⟨d,0,none⟩) 8 cR,.bool z,.bool c,.bool hz,.bool hc,.slice aH nH cH,.int .i64 pc,.int .i64 st,.slice n nO o]):=by rw[<-L];exact(x.stored 5 _).1
 have ay:Hid (N.ownsRow w.heap.size 32 9 (.slice (some ⟨w.heap.size+1,0,none⟩) 1 1) 1 [.slice none 0 0,.bool false,.bool false,.bool false,.bool false,.slice none 0 0,.int .i64 0,.int .i64 0,.slice none 0 0]):=ax.kept I (.inr (by simp[Value.ownBlock]));have ao:Hid (N.ownsRow y.heap.size 45 1 (.slice (some ⟨d,0,none⟩) 8 cR) 8 (first (8*1) (EU .u64 R))):=an.kept I (.inr (by simp[Value.ownBlock];omega));have ap:Hid (N.ownsRow a.heap.size 47 3 (.slice aH nH cH) nH (first (nH*3) (CO fun i=>(Hp i).put (Q i) (A i)))):=ah.kept I (Aj ah x Ad);have af:Hid (Bw w N):=by rw[<-L];exact ak.setCell AX _
 have z3:N.heap.size=M.heap.size:=by rw[<-L];simp
 have ab:Hid (∀i,i<nH->∃b,Q i=some ⟨b,0,none⟩/\Ak N b (Hp i).len (EU .u8 (Hp i).dat)/\b<w.heap.size/\1<=(Hp i).len/\(Hp i).len<=4096):=fun i m=>by
  obtain⟨b,e,ha⟩:=HM.data i m (by have:=(HL i m).1;omega);exact⟨b,e,ha.below af ha.lt,ha.lt,HL i m⟩
 clear I x ax an ah ak y5 yf L;go_loopw [15](fun i wr=>∃k:Nat,k<=nH/\i=.int .i64 k/\Below a.heap.size N wr/\∃blk cap:Nat->Nat,wr.ownsRow a.heap.size 47 3 (.slice aH nH cH) nH (first (nH*3) (CO (mix Hp Q A blk cap k)))/\(∀i,i<k->wr.ownsRow a.heap.size 5 1 (.slice (some ⟨blk i,0,none⟩) (Hp i).len (cap i)) (Hp i).len (first (Hp i).len (EU .u8 (Hp i).dat)))/\(∀i j,i<k->j<k->i≠j->blk i≠blk j))(fun i _=>nH-(intOf i).toNat)
 case atStart=>exact⟨0,Nat.zero_le _,rfl,Below.refl _ _,fun _=>0,fun _=>0,by rw[ig];exact ap,fun i m=>absurd m AB,fun i j m=>absurd m AB⟩
 case round=>
  obtain⟨k,hk,rfl,U,blk,cap,hh,hd,aB⟩:=hrel;have r:Hid (Below a.heap.size N wr):=U;have S:Hid (wr.ownsRow a.heap.size 47 3 (.slice aH nH cH) nH (first (nH*3) (CO (mix Hp Q A blk cap k)))):=hh;have HD:Hid ((∀i,i<k->wr.ownsRow a.heap.size 5 1 (.slice (some ⟨blk i,0,none⟩) (Hp i).len (cap i)) (Hp i).len (first (Hp i).len (EU .u8 (Hp i).dat)))):=hd;have HN:Hid ((∀i j,i<k->j<k->i≠j->blk i≠blk j)):=aB;have XB:Hid (wr.ownsRow w.heap.size 32 9 (.slice (some ⟨w.heap.size,0,none⟩) 1 1) 1 [.slice (some ⟨d,0,none⟩) 8 cR,.bool z,.bool c,.bool hz,.bool hc,.slice aH nH cH,.int .i64 pc,.int .i64 st,.slice n nO o]):=LW au (by simp[Value.ownBlock];omega) U;have zr:N.heap.size<=wr.heap.size:=U.size;clear U hh hd aB;have q5:wr.cell? ⟨w.heap.size,5,none⟩=some (.slice aH nH cH):=XB.cellAt 5 Ad;have aQ:w.heap.size<wr.heap.size:=AB;by_cases aM:k<nH
  ·obtain⟨O,aJ⟩:∃O,aH=some ⟨O,0,none⟩:=by
    obtain⟨g,aR,hv⟩:=G8 S AB;simp only[Value.slice.injEq]at hv;exact⟨g,hv.1⟩
   subst aJ;have lH:=S.lt O rfl;have aC:=lH.2;have aA:k*3+2<nH*3:=AB;obtain⟨bD,eD,aD,lD,aS,aT⟩:=ab.out k aM;have aF:Hid (Ak N bD (Hp k).len (EU .u8 (Hp k).dat)):=aD;have g2:wr.cell? ⟨O,k*3+2,none⟩=some (.slice (some ⟨bD,0,none⟩) (Hp k).len (A k)):=by
    rw[S.cellAt (k*3+2) aA,G6 aA,GD];simp[mix,Bv.put,eD]
   clear eD aD;have gf:wr.frozen? ⟨O,k*3+2,none⟩=false:=S.frozenAt _;have r5:∀l,Bw wr l->l.cell? ⟨w.heap.size,5,none⟩=some (.slice (some ⟨O,0,none⟩) nH cH):=fun l h=>(h.cell (p:=⟨w.heap.size,5,none⟩) aQ).trans q5
   have r2:∀l,Bw wr l->l.cell? ⟨O,k*3+2,none⟩=some (.slice (some ⟨bD,0,none⟩) (Hp k).len (A k)):=fun l h=>(h.cell (p:=⟨O,k*3+2,none⟩) aC).trans g2
   have rf:∀l,Bw wr l->l.frozen? ⟨O,k*3+2,none⟩=false:=fun l h=>(h.frozen (p:=⟨O,k*3+2,none⟩) aC).trans gf
   clear q5 g2 gf;go_wp2_with fail;refine BH (T:=fun l=>Bw wr l) (s:=12) AV (BJ.drew) (fun hHeld=>?_);refine ve [0,1,2,3,4,5,6,7,8] ?_;refine Ah (i:=9) rfl AV (fun K hK=>?_);go_simp;refine(jS bD 0 (Hp k).len (A k) (EU .u8 (Hp k).dat) _ AB ?_ (fun _=>rfl)).mono ?_
   ·rw[Nat.mul_one];exact(aF.below (r.trans (BJ.drew.mono AB)) AB).at
   rintro e wc⟨v',rfl,oc,bc,_⟩;have xc:Bw wr wc:=BJ.drew.trans bc;obtain⟨bN,cN,rfl⟩:=G8 oc AB;have ag:Hid (wc.ownsRow wr.heap.size 5 1 (.slice (some ⟨bN,0,none⟩) (Hp k).len cN) (Hp k).len (first ((Hp k).len*1) (EU .u8 (Hp k).dat))):=oc;have E:Hid (Bw wr wc):=xc;clear oc bc;go_wp2_with fail;refine hK.out _ _ (xc) (fun aE=>?_);clear hK K;refine ve [10,11] ?_;refine BD rfl AV AV (fun K hK=>?_);go_simp;refine hK.out _ _ ?_;clear hK K;go_wp2;go_roundw
   case rel=>
    have hs:=(Av S E).stored (k*3+2) (.slice (some ⟨bN,0,none⟩) (Hp k).len cN);refine⟨k+1,AB,by go_num,(r.trans (E.mono AB)).setCell (by simpa using lH.1) _,fun i=>if i=k then bN else blk i,fun i=>if i=k then cN else cap i,?_,?_,?_⟩
    ·have F:=hs.1
     rw[MP]at F;exact(Eh fun q _=>iD Hp Q A blk cap k bN cN q)▸F
    ·intro i m
     by_cases e:i=k
     ·subst e
      have F:=(ag.kept hs.2 (Aj ag (Av S E) Ad)).mono (show a.heap.size<=wr.heap.size by omega);rw[Nat.mul_one]at F;simpa using F
     ·have F:=Av (HD i AB) E
      simpa[e]using F.kept hs.2 (Aj F (Av S E) Ad)
    ·intro i j m hj az
     have lN:=(ag.lt bN rfl).1;have lo:∀t,t<k->blk t<wr.heap.size:=fun t ht=>((HD t ht).lt (blk t) rfl).2
     by_cases e:i=k
     ·have aK:j≠k:=fun q=>az (e.trans q.symm)
      have:=lo j AB;simp only[e,aK,if_true,if_false];omega
     ·by_cases e2:j=k
      ·have:=lo i AB
       simp only[e,e2,if_true,if_false];omega
      ·simp only[e,e2,if_false]
       exact HN i j AB AB az
   case measure=>simp[intOf];omega
  ·obtain rfl:nH=k:=AB
   have q8:wr.cell? ⟨w.heap.size,8,none⟩=some (.slice n nO o):=XB.cellAt 8 Ad;have qf:∀i,wr.frozen? ⟨w.heap.size,i,none⟩=false:=fun i=>XB.frozenAt i
   have al:Hid (Bw w wr):=af.trans (r.mono AB);go_wp2_with fail;refine(qY _ bO nO _ (Dg K V) wr aN HM.eO (HM.below al (Nat.le_refl _)).obs.at (UK K V)).mono ?_;rintro e X⟨v',rfl,o4,b4,_⟩;obtain⟨aO,cO,rfl⟩:=KD o4;have X4:Hid (X.ownsRow w.heap.size 32 9 (.slice (some ⟨w.heap.size,0,none⟩) 1 1) 1 [.slice (some ⟨d,0,none⟩) 8 cR,.bool z,.bool c,.bool hz,.bool hc,.slice aH nH cH,.int .i64 pc,.int .i64 st,.slice n nO o]):=Av XB b4;have Z4:Hid (X.ownsRow w.heap.size 32 9 (.slice (some ⟨w.heap.size+1,0,none⟩) 1 1) 1 [.slice none 0 0,.bool false,.bool false,.bool false,.bool false,.slice none 0 0,.int .i64 0,.int .i64 0,.slice none 0 0]):=Av (LW ay (by simp[Value.ownBlock];omega) r) b4;have R4:=Av (LW ao (by simp[Value.ownBlock];omega) r) b4;have H4:=Av S b4;have D4:=fun i m=>Av (HD i m) b4
   have B4:Bw w X:=al.trans (b4.mono AB);have MM:Mem X y.heap.size {bR:=d,cR:=cR,aH:=aH,cH:=cH,blk:=blk,cap:=cap,aO:=aO,cO:=cO} {R:=R,z:=z,c:=c,hz:=hz,hc:=hc,nH:=nH,Hp:=Hp,pc:=pc,st:=st,nO:=nO,K:=K,V:=V}:=by
    refine⟨R4,?_,fun i m=>(D4 i m).mono AB,o4.mono AB,HN⟩;have F:=H4.mono (show y.heap.size<=a.heap.size by omega);have e1:first (nH*3) (CO (mix Hp Q A blk cap nH))=first (nH*3) (CO (place Hp blk cap)):=Eh fun q hq=>ND hq fun i m=>by simp[mix,m]
    rw[e1]at F;exact F
   have aI:Hid _:=MM;have aG:Hid (Bw w X):=B4;have z4:w.heap.size+1<X.heap.size:=by have:=b4.size;omega
   have aX:w.heap.size<X.heap.size:=AB;have p0:=Dl X4;obtain⟨s0,s1,s2,s3,s4,s5,s6,s7,s8⟩:=Dl Z4;have pf:∀i,X.frozen? ⟨w.heap.size,i,none⟩=false:=fun i=>X4.frozenAt i
   have zf:∀i,X.frozen? ⟨w.heap.size+1,i,none⟩=false:=fun i=>Z4.frozenAt i
   clear MM B4 R4 H4 D4 o4 b4 q5 q8 qf HM HL au ay ao ap ab af r S HD HN XB;go_wp2;refine bodyPost_ret (v:=.agg #[.slice (some ⟨d,0,none⟩) 8 cR,.bool z,.bool c,.bool hz,.bool hc,.slice aH nH cH,.int .i64 pc,.int .i64 st,.slice aO nO cO]) (by simp[results,Tryz.results67,go_sem,s0,s1,s2,s3,s4,s5,s6,s7,s8]) rfl ⟨{bR:=d,cR:=cR,aH:=aH,cH:=cH,blk:=blk,cap:=cap,aO:=aO,cO:=cO},rfl,?_,?_⟩
   ·iterate 10 refine Below.setCell ?_ AX _
    exact aG
   ·refine Mem.mono (base:=y.heap.size) ?_ AB
    iterate 10 refine Mem.setLow ?_ (by simp;omega) _
    exact aI
structure HD where
 base:Int
 wr:Bool
 v:Value
 ds:List Int
def ZU(h:HD):List Value:=[.int .u64 h.base,.bool h.wr,h.v]
def xM(o:Int×Int):List Value:=[Vi o.1,.int .u64 o.2]
def JL(x:Int):Prop:=0<=x/\x<=18446744073709551615
theorem Qd(x:Int):JL (IntKind.u64.wrap x):=by
 unfold JL;rw[IntKind.wrap_u64];omega
structure Md where
 vR:Value
 z:Bool
 c:Bool
 hz:Bool
 hc:Bool
 vH:Value
 pc:Int
 st:Int
 vO:Value
 rs:List Int
 hs:List HD
 os:List (Int×Int)
def GQ:Md:=⟨.slice none 0 0,false,false,false,false,.slice none 0 0,0,0,.slice none 0 0,[],[],[]⟩
def Md.a(m:Md):Array Value:=#[m.vR,.bool m.z,.bool m.c,.bool m.hz,.bool m.hc,m.vH,Vi m.pc,Vi m.st,m.vO]
structure DW(w:World)(p:Nat)(ao:Option Addr)(n cap:Nat)(m:Md)(u:World):Prop where
 F:Fw p w u
 K:CJ u p ao n cap
 R:u.ownsRow w.heap.size 45 1 m.vR m.rs.length (m.rs.map (.int .u64 ·))
 H:u.ownsRow w.heap.size 47 3 m.vH m.hs.length (m.hs.flatMap ZU)
 O:u.ownsRow w.heap.size 213 2 m.vO m.os.length (m.os.flatMap xM)
 D:∀h∈m.hs,u.ownsRow w.heap.size 5 1 h.v h.ds.length (h.ds.map (.int .u8 ·))
 rr:∀x∈m.rs,JL x
 hr:∀h∈m.hs,JL h.base/\h.ds.length<=4100/\∀x∈h.ds,0<=x/\x<=255
 pw:p<w.heap.size
theorem DW.fw{m:Md}(h:DW w p U n Y m u)(f:Fw p u Q)(c:CJ Q p U n Y):DW w p U n Y m Q:=
 ⟨h.F.trans f,c,Eb h.R f h.pw,Eb h.H f h.pw,Eb h.O f h.pw,fun x a=>Eb (h.D x a) f h.pw,h.rr,h.hr,h.pw⟩
theorem DW.below{m:Md}(h:DW w p U n Y m u)(f:Below u.heap.size u Q):DW w p U n Y m Q:=h.fw (.of_below f) (h.K.below f)
theorem DW.put{m:Md}(h:DW w p U n Y m u)(A:w.heap.size<=q)(b:u.heap[q]?=some (.cells I 32))(j:Nat)(v:Value):DW w p U n Y m (u.setCell (Va q j) v):=by
 have c:∀{e s B:Nat}{l:Value}{C:List Value},u.ownsRow w.heap.size e s l B C->32≠e->l.ownBlock≠some q:=fun y z a=>by
  rcases y.2 with⟨d,_⟩|⟨g,Y,o,d,_,k,_⟩
  ·rw[d]at a;cases a
  ·rw[d]at a
   have r:=Option.some.inj a;subst r;rw[b]at k;exact z (Obj.cells.inj (Option.some.inj k)).2.1
 exact⟨h.F.put A _ _,h.K.put (by have:=h.pw;omega) _ _,CV h.R (c h.R Ad) _ _,CV h.H (c h.H Ad) _ _,CV h.O (c h.O Ad) _ _,fun x b=>CV (h.D x b) (c (h.D x b) Ad) _ _,h.rr,h.hr,h.pw⟩
structure DX(w:World)(p:Nat)(ao:Option Addr)(n cap:Nat)(q r:Nat)(m:Md)(u:World):Prop where
 W:DW w p ao n cap m u
 X:u.heap[q]?=some (.cells m.a 32)
 Z:u.heap[r]?=some (.cells GQ.a 32)
 wq:w.heap.size<=q
 wr:w.heap.size<=r
 ne:q≠r
theorem Hr{o:Obj}(h:u.heap[q]?=some o)(f:Fw p u Q)(a:p≠q):Q.heap[q]?=some o:=(f.block q (I8.1 h).1 (fun e=>a e.symm)).trans h
theorem DX.fw{m:Md}(h:DX w p U n Y q r m u)(f:Fw p u Q)(c:CJ Q p U n Y):DX w p U n Y q r m Q:=
 ⟨h.W.fw f c,Hr h.X f (by have:=h.W.pw;have:=h.wq;omega),Hr h.Z f (by have:=h.W.pw;have:=h.wr;omega),h.wq,h.wr,h.ne⟩
theorem DX.below{m:Md}(h:DX w p U n Y q r m u)(f:Below u.heap.size u Q):DX w p U n Y q r m Q:=h.fw (.of_below f) (h.W.K.below f)
theorem DX.store{b:Md}(h:DW w p U n Y b u)(X:u.heap[q]?=some (.cells I 32))(Z:u.heap[r]?=some (.cells GQ.a 32))(d:w.heap.size<=q)(wr:w.heap.size<=r)(c:q≠r)(j:Nat)(v:Value)(k:I.setIfInBounds j v=b.a):DX w p U n Y q r b (u.setCell (Va q j) v):=
 ⟨h.put d X j v,by rw[<-k];exact BG X j v,Ao Z (fun e=>c e.symm) j v,d,wr,c⟩
theorem KG{E:Option Nat}{o:Obj}(h:u.heap[q]?=some o)(a:u.grownBy Q E)(b:E≠some q):Q.heap[q]?=some o:=(a.block q (I8.1 h).1 (fun e=>b e.symm)).trans h
theorem Lm{E:Nat}{D:Value}(n:u.heap[q]?=some (.cells I 32))(l:u.ownsRow w.heap.size e s D E d)(m:32≠e):D.ownBlock≠some q:=fun a=>by
 rcases l.2 with⟨b,_⟩|⟨g,h,j,b,_,c,_⟩
 ·rw[b]at a;cases a
 ·rw[b]at a
  have k:=Option.some.inj a;subst k;rw[n]at c;exact m (Obj.cells.inj (Option.some.inj c)).2.1
theorem DW.growR{m:Md}(h:DW w p U n Y m u)(d:Value)(x:Int)(l:JL x)(b:u.grownBy Q m.vR.ownBlock)(j:Q.ownsRow w.heap.size 45 1 d (m.rs.length+1) (m.rs.map (.int .u64 ·)++[.int .u64 x])):DW w p U n Y {m with vR:=d,rs:=m.rs++[x]} Q:=by
 refine⟨h.F.grown b (fun k c=>(h.R.lt k c).1),h.K.grown b (fun k c=>by have:=(h.R.lt k c).1;have:=h.pw;omega),?_,h.H.kept b (Aj h.H h.R Ad),h.O.kept b (Aj h.O h.R Ad),fun y a=>(h.D y a).kept b (Aj (h.D y a) h.R Ad),fun y a=>?_,h.hr,h.pw⟩
 ·show Q.ownsRow _ _ _ d (m.rs++[x]).length ((m.rs++[x]).map _)
  rw[List.length_append,List.map_append];exact j
 ·rcases List.mem_append.1 a with a|a
  ·exact h.rr y a
  ·have e:y=x:=by simpa using a
   rw[e];exact l
theorem DW.growH{m:Md}(h:DW w p U n Y m u)(d:Value)(x:HD)(o:JL x.base/\x.ds.length<=4100/\∀y∈x.ds,0<=y/\y<=255)(j:u.ownsRow w.heap.size 5 1 x.v x.ds.length (x.ds.map (.int .u8 ·)))(b:u.grownBy Q m.vH.ownBlock)(l:Q.ownsRow w.heap.size 47 3 d (m.hs.length+1) (m.hs.flatMap ZU++ZU x)):DW w p U n Y {m with vH:=d,hs:=m.hs++[x]} Q:=by
 refine⟨h.F.grown b (fun k c=>(h.H.lt k c).1),h.K.grown b (fun k c=>by have:=(h.H.lt k c).1;have:=h.pw;omega),h.R.kept b (Aj h.R h.H Ad),?_,h.O.kept b (Aj h.O h.H Ad),fun y a=>?_,h.rr,fun y a=>?_,h.pw⟩
 ·show Q.ownsRow _ _ _ d (m.hs++[x]).length ((m.hs++[x]).flatMap _)
  rw[List.length_append,List.flatMap_append];simpa using l
 ·rcases List.mem_append.1 a with a|a
  ·exact(h.D y a).kept b (Aj (h.D y a) h.H Ad)
  ·have e:y=x:=by simpa using a
   rw[e];exact j.kept b (Aj j h.H Ad)
 ·rcases List.mem_append.1 a with a|a
  ·exact h.hr y a
  ·have e:y=x:=by simpa using a
   rw[e];exact o
theorem z9(h:u.heap[r]?=some (.cells GQ.a 32)):u.cell? (Va r 0)=some (.slice none 0 0)/\u.cell? (Va r 1)=some (.bool false)/\u.cell? (Va r 2)=some (.bool false)/\u.cell? (Va r 3)=some (.bool false)/\u.cell? (Va r 4)=some (.bool false)/\u.cell? (Va r 5)=some (.slice none 0 0)/\u.cell? (Va r 6)=some (Vi 0)/\u.cell? (Va r 7)=some (Vi 0)/\u.cell? (Va r 8)=some (.slice none 0 0)/\(∀j,u.frozen? (Va r j)=false)/\r<u.heap.size:=
 ⟨AJ h 0,AJ h 1,AJ h 2,AJ h 3,AJ h 4,AJ h 5,AJ h 6,AJ h 7,AJ h 8,CP h,(I8.1 h).1⟩
theorem DW.put9{m:Md}(h:DW w p U n Y m u)(a:w.heap.size<=q)(r:u.heap[q]?=some (.cells I 32))(b c d e j k l o s:Value):DW w p U n Y m (((((((((u.setCell (Va q 0) b).setCell (Va q 1) c).setCell (Va q 2) d).setCell (Va q 3) e).setCell (Va q 4) j).setCell (Va q 5) k).setCell (Va q 6) l).setCell (Va q 7) o).setCell (Va q 8) s):=by
 have x:=BG r 0 b;have y:=BG x 1 c;have z:=BG y 2 d;have A:=BG z 3 e;have B:=BG A 4 j;have C:=BG B 5 k;have D:=BG C 6 l;have E:=BG D 7 o;exact((((((((h.put a r 0 b).put a x 1 c).put a y 2 d).put a z 3 e).put a A 4 j).put a B 5 k).put a C 6 l).put a D 7 o).put a E 8 s
theorem DX.cells{m:Md}(h:DX w p U n Y q r m u):(u.cell? (Va q 0)=some m.vR/\u.cell? (Va q 1)=some (.bool m.z)/\u.cell? (Va q 2)=some (.bool m.c)/\u.cell? (Va q 3)=some (.bool m.hz)/\u.cell? (Va q 4)=some (.bool m.hc)/\u.cell? (Va q 5)=some m.vH/\u.cell? (Va q 6)=some (Vi m.pc)/\u.cell? (Va q 7)=some (Vi m.st)/\u.cell? (Va q 8)=some m.vO)/\(∀j,u.frozen? (Va q j)=false)/\q<u.heap.size:=
 ⟨⟨AJ h.X 0,AJ h.X 1,AJ h.X 2,AJ h.X 3,AJ h.X 4,AJ h.X 5,AJ h.X 6,AJ h.X 7,AJ h.X 8⟩,CP h.X,(I8.1 h.X).1⟩
theorem Wq(p:Nat)(b:Option Addr)(n a:Nat)(w:World)(y:CJ w p b n a):
 Calls Tryz.prog 78 #[Vq p] w fun e m=>∃x:Int,e=.returned (.int .u64 x)/\JL x/\Fw p w m/\CJ m p b n a:=by
 have r:=hxy y;go_enter Tryz.func78,Tryz.ntmps78;go_wp2_with fail;refine(Af p b n a 6 _ AB r).mono ?_;rintro e B⟨k,rfl,z,A,f,c⟩;have q:=hxy f;have o:=hxy c;go_wp2_with fail;refine(Af p b n a 300 _ AB o).mono ?_;rintro e C⟨x,rfl,D,E,f,c⟩;have h:=hxy (q.trans f);have d:=hxy c;by_cases j:k=0
 ·have s:(k==0)=true:=by rw[beq_iff_eq];exact j
  go_wp2_with fail;go_ret;exact⟨_,rfl,⟨AB,AB⟩,h,d⟩
 ·have s:(k==0)=false:=by rw[beq_eq_false_iff_ne];exact j
  by_cases l:k=1
  ·have u:(k==1)=true:=by rw[beq_iff_eq];exact l
   go_wp2_with fail;go_ret;exact⟨_,rfl,⟨AB,AB⟩,h,d⟩
  ·have u:(k==1)=false:=by rw[beq_eq_false_iff_ne];exact l
   go_wp2_with fail;go_ret;exact⟨_,rfl,⟨AB,AB⟩,h,d⟩
theorem Ki(p:Nat)(r:Option Addr)(n b:Nat)(m:Int)(w:World)(m0:0<=m)(m1:m<=4096)(hc:CJ w p r n b):
 Calls Tryz.prog 45 #[Vq p,Vi m] w fun e U=>∃(v:Value),e=.returned v/\∃a:List Int,(a.length:Int)=m/\(∀x∈a,0<=x/\x<=255)/\U.ownsRow w.heap.size 5 1 v a.length (a.map (.int .u8 ·))/\Fw p w U/\CJ U p r n b:=by
 have lp:=hc.lt;have HC:=hxy hc;obtain⟨A,hi,O,Q,R⟩:=info_parts RU;have l:Hid (Tryz.prog.info? 5=some A/\A.zero=some (.int .u8 0)/\A.size=1/\A.bytes=1):=⟨hi,O,Q,R⟩
 go_enter Tryz.func45,Tryz.ntmps45;go_wp2_with fail;have f0:Fw p w (w.alloc (.cells #[] 5)):=.of_below Ai;have c0:CJ (w.alloc (.cells #[] 5)) p r n b:=HC.below Ai;have o0:(w.alloc (.cells #[] 5)).ownsRow w.heap.size 5 1 (Vs w.heap.size 0 0) 0 []:=World.ownsRow_lit w #[] 0 BQ (by unfold maxLen;omega) rfl;go_loopw [5,6](fun ov S wr=>∃(a:List Int),S=Vi (a.length:Int)/\(a.length:Int)<=m/\(∀x∈a,0<=x/\x<=255)/\wr.ownsRow w.heap.size 5 1 ov a.length (a.map (.int .u8 ·))/\Fw p w wr/\CJ wr p r n b)(fun _ S _=>(m-intOf S).toNat)
 case atStart=>exact⟨[],rfl,by simpa using m0,fun _ h=>absurd h List.not_mem_nil,o0,f0,c0⟩
 case round=>
  obtain⟨a,K,N,J,ho,hf,I⟩:=hrel;subst K;obtain⟨k,hk⟩:∃k:Int,(a.length:Int)=k:=⟨_,rfl⟩
  have B:=hxy hk;have k0:0<=k:=AB;rw[hk]at N⊢;obtain⟨oa,oc,M⟩:=Cf ho;subst M;have Z:=hxy ho;have Y:=hxy hf;have HU:=hxy I;have HD:=hxy J;by_cases aa:k<m
  ·go_wp2_with fail
   refine(Hg p r n b wr HU).mono ?_;rintro e q⟨x,rfl,x0,x1,f,c⟩;have X:=hxy (Y.trans f);have C2:=hxy c;have E:=hxy (Eb Z f lp);have F:∀o,w.heap.size<=(q.alloc o).heap.size:=fun o=>Nat.le_trans X.size AX
   have D:Hid (∀j u,[Value.int .u8 x][j]?=some u->(q.alloc (.cells #[.int .u8 x] 5)).cell? ((⟨q.heap.size,0,none⟩:Addr).add j)=some u):=Fq q _ _;have OA:Hid (∀o,(q.alloc o).ownsRow w.heap.size 5 1 (.slice oa a.length oc) a.length (a.map (.int .u8 ·))):=fun o=>BM E Ai
   have ab:a.length<=4096:=by have:=B.out;omega
   go_wp2_with(first|(at_builtin;refine wpList_append_own_at _ rfl _ _ 22 rfl w.heap.size 5 A _ 1 1 Tryz.underlying22 l.1 l.2.1 l.2.2.1 l.2.2.2 rfl Ad _ _ _ rfl (OA _) ⟨q.heap.size,0,none⟩ 1 1 [Value.int .u8 x] rfl rfl D ?c2 ?c3 ?c4 (F _) ?_))
   case c2=>simp[Value.oneCell']
   case c3=>unfold maxLen;omega
   case c4=>omega
   intro v' C s d _ _;have ba:Bw q (q.alloc (.cells #[.int .u8 x] 5)):=Ai;have F3:Hid (Fw p w C):=(X.trans (.of_below ba)).grown d (fun j L=>(E.lt j L).1);have C3:Hid (CJ C p r n b):=(C2.below ba).grown d (fun j L=>by have:=(E.lt j L).1;omega);have O3:Hid (C.ownsRow w.heap.size 5 1 v' (a++[x]).length ((a++[x]).map (.int .u8 ·))):=(by rw[List.length_append,List.map_append];exact s:C.ownsRow w.heap.size 5 1 v' (a++[x]).length ((a++[x]).map (.int .u8 ·)))
   go_wp2_with fail;go_roundw
   case rel=>exact⟨a++[x],by have:=B.out;simp;omega,by have:=B.out;simp;omega,fun y z=>by
    rcases List.mem_append.1 z with z|z
    ·exact HD y z
    ·have e:y=x:=by simpa using z
     rw[e];exact⟨x0,x1⟩,O3,F3,C3⟩
   case measure=>simp[intOf];omega
  ·go_wp2_with fail
   go_ret;exact⟨_,rfl,a,by have:=B.out;omega,HD,Z,Y,HU⟩
theorem JY(f:Nat->Int)(o:Nat):∀k,(∀j,j<k->0<=f (o+j)/\f (o+j)<=255)->0<=Hu f o k/\Hu f o k<2^(8*k)
 |0,_=>by simp[Hu]
 |k+1,h=>by
  have c:=JY f o k fun j b=>h j AB
  have a:=h k AB;have e:(2:Int)^(8*(k+1))=256*2^(8*k):=by rw[show 8*(k+1)=8*k+8 by omega,Int.pow_add];omega
  unfold Hu;rw[e];have p:(0:Int)<2^(8*k):=Int.pow_pos Ad;have d:0<=f (o+k)*2^(8*k):=Int.mul_nonneg a.1 (Int.le_of_lt p);have l:f (o+k)*2^(8*k)<=255*2^(8*k):=Int.mul_le_mul_of_nonneg_right a.2 (Int.le_of_lt p);omega
theorem kz{x:Int}(a:0<=x)(b:x<18446744073709551616):IntKind.u64.wrap x=x:=by
 have h:IntKind.u64.wrap x=x%18446744073709551616:=by rfl
 rw[h];omega
theorem Qk(h:k<=7):(256:Int)*2^(8*k)<=18446744073709551616:=by
 match k,h with
 |0,_|1,_|2,_|3,_|4,_|5,_|6,_|7,_=>decide
theorem XQ{y:Int}(c:k<=7)(a:0<=y)(b:y<=255):0<=y*2^(8*k)/\y*2^(8*k)<18446744073709551616:=by
 have p:(0:Int)<2^(8*k):=Int.pow_pos Ad;have d:0<=y*2^(8*k):=Int.mul_nonneg a (Int.le_of_lt p);have e:y*2^(8*k)<=255*2^(8*k):=Int.mul_le_mul_of_nonneg_right b (Int.le_of_lt p);have:=Qk c;omega
theorem sV{x y:Int}(h:k<=7)(o:0<=x)(q:x<2^(8*k))(b:0<=y)(j:y<=255):bits BinOp.or IntKind.u64 x (y*2^(8*k))=x+y*2^(8*k):=by
 obtain⟨X,rfl⟩:=Int.eq_ofNat_of_zero_le o;obtain⟨Y,rfl⟩:=Int.eq_ofNat_of_zero_le b;have d:=XQ h b j;have r:=Qk h;have l:X<2^(8*k):=by exact_mod_cast q
 have e:((Y:Int)*2^(8*k))=((Y<<<(8*k):Nat):Int):=by rw[Nat.shiftLeft_eq];push_cast;rfl
 rw[e]at d⊢;have n:((X:Int)+((Y<<<(8*k):Nat):Int))=((Y<<<(8*k)|||X:Nat):Int):=by rw[<-Nat.shiftLeft_add_eq_or_of_lt l];push_cast;omega
 rw[n];have c:Y<<<(8*k)<2^64:=by have:=d.2;omega
 have a:X<2^64:=by
  have:(X:Int)<18446744073709551616:=by
   have p:(0:Int)<2^(8*k):=Int.pow_pos Ad;omega
  omega
 have m:Y<<<(8*k)|||X<2^64:=Nat.or_lt_two_pow c a;unfold bits;show IntKind.u64.wrap ((BitVec.ofInt 64 (X:Int)|||BitVec.ofInt 64 ((Y<<<(8*k):Nat):Int)).toNat:Int)=_;rw[BitVec.ofInt_natCast,BitVec.ofInt_natCast,BitVec.toNat_or,BitVec.toNat_ofNat,BitVec.toNat_ofNat,Nat.mod_eq_of_lt a,Nat.mod_eq_of_lt c,Nat.or_comm];exact kz AB AB
end Go.Proofs.YtjoppncopoampaaGreatDoor
