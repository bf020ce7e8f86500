import Derived.Test.YtjoppncopoampaaGreatDoorOfCoreReg
import Derived.Test.YtjoppncopoampaaGreatDoorOfTransAll2
import Derived.Test.YtjoppncopoampaaGreatDoorOfAbsWalks
import Derived.Deep.Cut
import Derived.Deep.DeepCutAuto
import Derived.Test.YtjoppncopoampaaGreatDoorOfTransResA
namespace Go.Proofs.YtjoppncopoampaaGreatDoor
open Go.RowKit Go.Deep
variable {C Z c d h m z:Int}{J N o:Nat}
def Wx(w w':World)(e:Ending)(err:Int)(V:Nat->VV)(z c:Int):Prop:=
 (err≠0/\e=.returned (.agg #[Vi err,.slice none 0 0,Vi 0,Vi 0]))∨(err=0/\∃g cg,w.heap.size<=g/\e=.returned (.agg #[Vi 0,Vs g 8 cg,Vi z,Vi c])/\Ak w' g (8*6) (vF V))
def TN(nH:Nat)(S:Nat->HS)(nR:Nat)(V0:Nat->VV)(nA:Nat)(V:Nat->VV)(z c op d ra rb imm h:Int):Int:=
 if BK nH S nR V0 nA V z c=true/\BF op d ra rb imm h=true/\op<=28 then FL op (Jw op z c) (Gi V op z c ra.toNat rb.toNat) (DK op imm h (Gl V op ra.toNat) (Gb V op rb.toNat) (V d.toNat) (S h.toNat))else 11
def Pj(S:Nat->HS)(V:Nat->VV)(z c op d ra rb imm h:Int):Nat->VV:=
 if Ik op then Df V d.toNat (kS op imm (Gl V op ra.toNat) (Gb V op rb.toNat) (Gi V op z c ra.toNat rb.toNat) (Jw op z c) (S h.toNat))else V
def Mc(V:Nat->VV)(z c op ra rb x:Int):Int:=if Fj op then(if Gi V op z c ra.toNat rb.toNat then 2 else 1)else x
structure wP(w u:World)(bH nH cH bR nR cR bA nA cA:Nat)(z c op d ra rb imm h:Int):Prop where
 bel:Below w.heap.size w u
 S:Cl u w.heap.size [Vs bH nH cH,Vs bR nR cR]
 A:Cl u (w.heap.size+1) [Vs bA nA cA,Vi z,Vi c]
 I:Cl u (w.heap.size+1+1) [Vi op,Vi d,Vi ra,Vi rb,Vi imm,Vi h]
 R:Cl u (w.heap.size+1+1+1) [Vi 0,.slice none 0 0,Vi 0,Vi 0]
 RF:∀i,u.frozen? ⟨w.heap.size+1+1+1,i,none⟩=false
theorem wP.below{w u v:World}{bH M D O K F:Nat}{ra:Int}(p:wP w u bH o M D J O K N F z c Z d ra C m h)(a:Below u.heap.size u v):wP w v bH o M D J O K N F z c Z d ra C m h:=
 ⟨p.bel.trans (a.mono p.bel.size),p.S.below a,p.A.below a,p.I.below a,p.R.below a,fun i=>(a.frozen (p:=⟨w.heap.size+1+1+1,i,none⟩) p.R.1).trans (p.RF i)⟩
theorem Ny(w:World)(e o l j p m b n k:Nat){op ra rb imm:Int}:∃u,(((w.alloc (.cells #[Vs e o l,Vs j p m] 26)).alloc (.cells #[Vs b n k,Vi z,Vi c] 36)).alloc (.cells #[Vi op,Vi d,Vi ra,Vi rb,Vi imm,Vi h] 109)).alloc (.cells #[Vi 0,.slice none 0 0,Vi 0,Vi 0] 152)=u/\wP w u e o l j p m b n k z c op d ra rb imm h:=by
 have M:=Cl.new (w:=w) (vs:=#[Vs e o l,Vs j p m]) (t:=26);generalize D:w.alloc (.cells #[Vs e o l,Vs j p m] 26)=x at *;have I:x.heap.size=w.heap.size+1:=by rw[<-D];simp
 have K:Bw w x:=by rw[<-D];exact Ai
 have N:=Cl.new (w:=x) (vs:=#[Vs b n k,Vi z,Vi c]) (t:=36);generalize E:x.alloc (.cells #[Vs b n k,Vi z,Vi c] 36)=y at *;have J:y.heap.size=w.heap.size+1+1:=by rw[<-E];simp[I]
 have r:Bw x y:=by rw[<-E];exact Ai
 have A:=Cl.new (w:=y) (vs:=#[Vi op,Vi d,Vi ra,Vi rb,Vi imm,Vi h]) (t:=109);generalize F:y.alloc (.cells #[Vi op,Vi d,Vi ra,Vi rb,Vi imm,Vi h] 109)=v at *;have O:v.heap.size=w.heap.size+1+1+1:=by rw[<-F];simp[J]
 have q:Bw y v:=by rw[<-F];exact Ai
 have B:=Cl.new (w:=v) (vs:=#[Vi 0,.slice none 0 0,Vi 0,Vi 0]) (t:=152);have C:∀i,(v.alloc (.cells #[Vi 0,.slice none 0 0,Vi 0,Vi 0] 152)).frozen? ⟨v.heap.size,i,none⟩=false:=fun i=>by simp[go_sem]
 have a:Bw v (v.alloc (.cells #[Vi 0,.slice none 0 0,Vi 0,Vi 0] 152)):=Ai;have L:=(M.below r).below q;have s:=N.below q;rw[I]at s;rw[J]at A;rw[O]at B C;exact⟨_,rfl,((K.trans (r.mono AB)).trans (q.mono AB)).trans (a.mono AB),L.below a,s.below a,A.below a,B,C⟩
theorem Cc{w u:World}{bH M D O K F:Nat}{I:Int}(p:wP w u bH o M D J O K N F z c Z d I C m h):(u.cell? ⟨w.heap.size,0,none⟩=some (Vs bH o M)/\u.cell? ⟨w.heap.size,1,none⟩=some (Vs D J O))/\(u.cell? ⟨w.heap.size+1,0,none⟩=some (Vs K N F)/\u.cell? ⟨w.heap.size+1,1,none⟩=some (Vi z)/\u.cell? ⟨w.heap.size+1,2,none⟩=some (Vi c))/\(u.cell? ⟨w.heap.size+1+1+1,0,none⟩=some (Vi 0)/\u.cell? ⟨w.heap.size+1+1+1,1,none⟩=some (.slice none 0 0)/\u.cell? ⟨w.heap.size+1+1+1,2,none⟩=some (Vi 0)/\u.cell? ⟨w.heap.size+1+1+1,3,none⟩=some (Vi 0)):=
 ⟨⟨p.S.2 0 AX,p.S.2 1 AX⟩,⟨p.A.2 0 AX,p.A.2 1 AX,p.A.2 2 AX⟩,p.R.2 0 AX,p.R.2 1 AX,p.R.2 2 AX,p.R.2 3 AX⟩
theorem Y4(V:Nat->VV)(z c:Int)(j:Nat)(R:VV)(r:Int)(wr b a:Bool):∃W k d,NR V z c j R r wr b a=.tuple #[.agg (CX W k d),Vi r]/\(r=0->W=(if wr then Df V j R else V)/\k=(if b then(if a then 2 else 1)else z)/\d=(if b then(if a then 2 else 1)else c)):=by
 unfold NR;by_cases h:r=0
 ·rw[if_neg (by simp[h]),h]
  exact⟨_,_,_,rfl,fun _=>⟨rfl,rfl,rfl⟩⟩
 ·rw[if_pos h]
  exact⟨_,_,_,rfl,fun e=>absurd e h⟩
theorem Gx{I:Int}(e:BF Z d I C m h=true)(o:Z<=28):1<=Z/\0<=d/\d<=7/\0<=I/\I<=7/\0<=C/\C<=7/\0<=h/\h<=7/\ -1000000<=m/\m<=1000000/\(Z=12∨Z=13->0<=m/\m<=63):=by
 unfold BF at e;have f:∀(u:Bool)(v b a:Int),Dc u v b a=true->(b<=v/\v<=a)∨v=0:=fun u v b a h=>by
  unfold Dc EM at h;cases u<;>simp at h<;>omega
 simp only[Bool.and_eq_true]at e;obtain⟨⟨⟨⟨⟨c,j⟩,k⟩,l⟩,n⟩,p⟩:=e;have q:1<=Z:=by unfold EM at c;simp at c;omega
 have s: -1000000<=DF Z/\DL Z<=1000000:=by unfold DF DL;(repeat' split)<;>omega
 have r:Z=12∨Z=13->DF Z=0/\DL Z=63:=fun h=>by unfold DF DL;rw[if_pos AB,if_pos h];exact⟨rfl,rfl⟩
 have:=f _ _ _ _ j;have:=f _ _ _ _ k;have:=f _ _ _ _ l;have:=f _ _ _ _ n;have:=f _ _ _ _ p;refine⟨q,AB,AB,AB,AB,AB,AB,AB,AB,AB,AB,fun h=>?_⟩;have:=r h;omega
theorem FR{S:Nat->HS}{O V:Nat->VV}(h:BK o S J O N V z c=true):N=8/\o<=8/\∀i,i<8->Cy (V i) o=true:=by
 unfold BK at h;simp only[Bool.and_eq_true]at h;obtain⟨⟨⟨e,a⟩,_⟩,_⟩:=h;have b:=NY e;unfold Dq at a;rw[Bool.and_eq_true]at a;have d:=of_decide_eq_true a.1;refine⟨d,b,fun i j=>?_⟩;have:=List.all_eq_true.1 a.2 i (List.mem_range.2 AB);exact this
end Go.Proofs.YtjoppncopoampaaGreatDoor
namespace Go.Proofs.YtjoppncopoampaaGreatDoor
open Go.RowKit
variable {b g o:Nat}{V:Nat->VV}{a:VV}{u w:World}
def vG(w':World)(g cg:Nat)(e:Ending)(err:Int)(V:Nat->VV)(z c:Int):Prop:=
 (err≠0/\e=.returned (.agg #[Vi err,.slice none 0 0,Vi 0,Vi 0]))∨(err=0/\e=.returned (.agg #[Vi 0,Vs g 8 cg,Vi z,Vi c])/\Ak w' g (8*6) (vF V))
def Ff(w:World)(b o:Nat)(r:VV):World:=(((((w.setCell (Va b o) (Vi r.k)).setCell (Va b (o+1)) (.bool r.s)).setCell (Va b (o+2)) (Vi r.m)).setCell (Va b (o+3)) (Vi r.h)).setCell (Va b (o+4)) (Vi r.lo)).setCell (Va b (o+5)) (Vi r.hi)
theorem OM(h:Ak w b (8*6) (vF V)){d:Nat}(k:d<8)(r:VV):Ak (Ff w b (d*6) r) b (8*6) (vF (Df V d r)):=by
 refine(Ak.set1 (Ak.set1 (Ak.set1 (Ak.set1 (Ak.set1 (Ak.set1 h (d*6) AB _) (d*6+1) AB _) (d*6+2) AB _) (d*6+3) AB _) (d*6+4) AB _) (d*6+5) AB _).congr (fun i l=>?_);have m:=Nat.div_add_mod i 6;have c:i%6<6:=Nat.mod_lt _ Ad;simp only[vF,Df];generalize i/6=j at *;generalize i%6=e at *;by_cases a:j=d
 ·subst a
  rw[if_pos rfl];match e,c with
  |0,_=>rw[if_neg AB,if_neg AB,if_neg AB,if_neg AB,if_neg AB,if_pos AB];rfl
  |1,_=>rw[if_neg AB,if_neg AB,if_neg AB,if_neg AB,if_pos AB];rfl
  |2,_=>rw[if_neg AB,if_neg AB,if_neg AB,if_pos AB];rfl
  |3,_=>rw[if_neg AB,if_neg AB,if_pos AB];rfl
  |4,_=>rw[if_neg AB,if_pos AB];rfl
  |5,_=>rw[if_pos AB];rfl
 ·rw[if_neg a]
  iterate 6 rw[if_neg AB]
theorem PY{B:Nat}{C:World}(h:Below B C w)(a:B<=b)(r:VV):Below B C (Ff w b o r):=by
 unfold Ff;exact(((((h.setCell a _).setCell a _).setCell a _).setCell a _).setCell a _).setCell a _
theorem EY{c:Nat}{N:List Value}(h:Cl w c N)(a:b≠c)(r:VV):Cl (Ff w b o r) c N:=
 ⟨by unfold Ff;simpa using h.1,fun i d=>by unfold Ff;(iterate 6 refine(World.cell?_setCell_far _ _ _ _ a).trans ?_);exact h.2 i d⟩
theorem RI{a:Addr}(r:VV):(Ff w b o r).frozen? a=w.frozen? a:=by unfold Ff;simp
structure nQ(w u:World)(bH nH cH bR nR cR g cg:Nat)(z c op d ra rb imm h:Int)(na nb:Nat)(a b:VV)(V:Nat->VV):Prop where
 bel:Below g w u
 S:Cl u w.heap.size [Vs bH nH cH,Vs bR nR cR]
 A:Cl u (w.heap.size+1) [Vs g 8 cg,Vi z,Vi c]
 I:Cl u (w.heap.size+1+1) [Vi op,Vi d,Vi ra,Vi rb,Vi imm,Vi h]
 R:Cl u (w.heap.size+1+1+1) [Vi 0,.slice none 0 0,Vi 0,Vi 0]
 RF:∀i,u.frozen? ⟨w.heap.size+1+1+1,i,none⟩=false
 a:Cl u na [Vi a.k,.bool a.s,Vi a.m,Vi a.h,Vi a.lo,Vi a.hi]
 b:Cl u nb [Vi b.k,.bool b.s,Vi b.m,Vi b.h,Vi b.lo,Vi b.hi]
 G:Ak u g (8*6) (vF V)
theorem nQ.below{v:World}{bH M D J O L:Nat}{z c Z d ra C m h:Int}{F nb:Nat}{b:VV}(p:nQ w u bH o M D J O g L z c Z d ra C m h F nb a b V)(e:Below u.heap.size u v):nQ w v bH o M D J O g L z c Z d ra C m h F nb a b V:=
 ⟨p.bel.trans (e.mono (Nat.le_of_lt p.G.lt)),p.S.below e,p.A.below e,p.I.below e,p.R.below e,fun i=>(e.frozen (p:=⟨w.heap.size+1+1+1,i,none⟩) p.R.1).trans (p.RF i),p.a.below e,p.b.below e,p.G.below e p.G.lt⟩
theorem nQ.put{bH M D nR O L:Nat}{z c Z d ra C m h:Int}{F J:Nat}{b:VV}(p:nQ w u bH o M D nR O g L z c Z d ra C m h F J a b V)(l:g<w.heap.size)(j:w.heap.size<=F)(k:w.heap.size<=J){B:Nat}(e:B<8)(r:VV):nQ w (Ff u g (B*6) r) bH o M D nR O g L z c Z d ra C m h F J a b (Df V B r):=
 ⟨PY p.bel BQ r,EY p.S AB r,EY p.A AB r,EY p.I AB r,EY p.R AB r,fun i=>(RI r).trans (p.RF i),EY p.a AB r,EY p.b AB r,OM p.G e r⟩
theorem KL{q:Nat}(h:Cl u q [Vi a.k,.bool a.s,Vi a.m,Vi a.h,Vi a.lo,Vi a.hi]):u.cell? (Va q 0)=some (Vi a.k)/\u.cell? (Va q 1)=some (.bool a.s)/\u.cell? (Va q 2)=some (Vi a.m)/\u.cell? (Va q 3)=some (Vi a.h)/\u.cell? (Va q 4)=some (Vi a.lo)/\u.cell? (Va q 5)=some (Vi a.hi):=
 ⟨h.2 0 AX,h.2 1 AX,h.2 2 AX,h.2 3 AX,h.2 4 AX,h.2 5 AX⟩
theorem Bh(h:Ak u g (8*6) (vF V))(i:Nat)(a:i<8):u.cell? (Va g (i*6))=some (Vi (V i).k)/\u.cell? (Va g (i*6+1))=some (.bool (V i).s)/\u.cell? (Va g (i*6+2))=some (Vi (V i).m)/\u.cell? (Va g (i*6+3))=some (Vi (V i).h)/\u.cell? (Va g (i*6+4))=some (Vi (V i).lo)/\u.cell? (Va g (i*6+5))=some (Vi (V i).hi):=
 ⟨(h.cell (i:=i*6+0) AB).trans (congrArg some (Bz V i 0 AB)),(h.cell (i:=i*6+1) AB).trans (congrArg some (Bz V i 1 AB)),(h.cell (i:=i*6+2) AB).trans (congrArg some (Bz V i 2 AB)),(h.cell (i:=i*6+3) AB).trans (congrArg some (Bz V i 3 AB)),(h.cell (i:=i*6+4) AB).trans (congrArg some (Bz V i 4 AB)),(h.cell (i:=i*6+5) AB).trans (congrArg some (Bz V i 5 AB))⟩
theorem Sw{A:Nat}{S:Nat->HS}(h:Ak u A (o*3) (Ur S)){q:Nat}(a:q<o):u.cell? (Va A (q*3))=some (Vi (S q).size)/\u.cell? (Va A (q*3+1))=some (.bool (S q).s)/\u.cell? (Va A (q*3+2))=some (.bool (S q).w):=
 ⟨(h.cell (i:=q*3+0) AB).trans (congrArg some (Fb S q 0 AB)),(h.cell (i:=q*3+1) AB).trans (congrArg some (Fb S q 1 AB)),(h.cell (i:=q*3+2) AB).trans (congrArg some (Fb S q 2 AB))⟩
end Go.Proofs.YtjoppncopoampaaGreatDoor
