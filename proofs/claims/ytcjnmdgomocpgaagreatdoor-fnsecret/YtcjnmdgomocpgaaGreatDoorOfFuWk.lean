import Derived.Test.YtcjnmdgomocpgaaGreatDoorOfCkTrM
import Derived.Test.YtcjnmdgomocpgaaGreatDoorOfCk5e
set_option maxHeartbeats 4000000
namespace Go.Proofs.YtcjnmdgomocpgaaGreatDoor
open Go.RowKit
variable {u:World}
theorem Nn:Ru:=by
 intro u A n S x B m s y V z c b d p r a h w E C D l;by_cases J:BK n S 8 m 8 V z c=true/\BF b d p r a h=true/\b<=28
 rotate_left
 ·refine(JH u A n S x B 8 m s y 8 V z c b d p r a h w E AB AB C D J).mono ?_
  rintro e w'⟨rfl,Q⟩;have I:TN n S 8 m 8 V z c b d p r a h=11:=by unfold TN;rw[if_neg J]
  rw[I];exact⟨Or.inl ⟨Ad,rfl⟩,Q⟩
 obtain⟨_,j,o⟩:=J;obtain⟨U,d0,d7,Y,Z,aa,ab,h0,h7,N,O,R⟩:=Gx j o;obtain⟨F,rfl⟩:∃k:Nat,d=(k:Int):=⟨d.toNat,AB⟩
 obtain⟨K,rfl⟩:∃k:Nat,p=(k:Int):=⟨p.toNat,AB⟩
 obtain⟨L,rfl⟩:∃k:Nat,r=(k:Int):=⟨r.toNat,AB⟩
 obtain⟨q,rfl⟩:∃k:Nat,h=(k:Int):=⟨h.toNat,AB⟩
 by_cases M:21<=b
 ·exact fK u A n S x B 8 m s y V z c b a F K L q AB AB AB w E AB C D l j M o N O
 by_cases X:b=19∨b=20
 ·exact iT u A n S x B 8 m s y V z c b a F K L q AB AB AB w E AB C D l j X
 ·exact fE u A n S x B 8 m s y V z c b a F K L q AB AB AB w E AB C D l j U AB N O R
theorem Ct{p q:Nat}{Q:World}{o:Obj}(h:u.heap[q]?=some o)(f:Fw p u Q)(a:p≠q):Q.heap[q]?=some o:=(f.block q (I8.1 h).1 (fun e=>a e.symm)).trans h
def yP(nH:Nat)(S:Nat->HS)(nR:Nat)(V0:Nat->VV)(nA:Nat)(V:Nat->VV)(z c op d ra rb imm h:Int)(w:World)(e:Ending)(w':World):Prop:=
 ∃(err:Int)(V':Nat->VV)(z' c':Int),Wx w w' e err V' z' c'/\(err=0->BK nH S nR V0 8 V' z' c'=true)/\(BK nH S nR V0 nA V z c=true->BF op d ra rb imm h=true->op=2∨op=11∨op=18->err=0)/\Below w.heap.size w w'
theorem Cw(D I n:Nat)(S:Nat->HS)(E J y:Nat)(B:Nat->VV)(C F u:Nat)(V:Nat->VV)(z c A d r s j h:Int)(w:World)(O:n<=1048576)(U:y<=1048576)(R:u<=1048576)(M:Ck w D n S E y B)(N:Ak w C (u*6) (vF V)):
 Ks 64 #[.agg #[Vs D n I,Vs E y J],.agg #[Vs C u F,Vi z,Vi c],.agg #[Vi A,Vi d,Vi r,Vi s,Vi j,Vi h]] w (yP n S y B u V z c A d r s j h w):=by
 by_cases L:BK n S y B u V z c=true/\BF A d r s j h=true/\A<=28
 rotate_left
 ·refine(JH D I n S E J y B C F u V z c A d r s j h w O U R M N L).mono ?_
  rintro e w'⟨rfl,K⟩;exact⟨11,V,z,c,Or.inl ⟨Ad,rfl⟩,fun e=>absurd e Ad,fun a b o=>absurd ⟨a,b,AB⟩ L,K⟩
 obtain⟨l,m,p⟩:=L;obtain⟨X,Y,_⟩:=Co.1 l;obtain⟨Z,_⟩:=Ja X;subst Y Z;refine(Nn D I n S E J B C F V z c A d r s j h w O M N l).mono ?_;rintro e w'⟨Q,K⟩;refine⟨_,_,_,_,Q,fun _=>Yk l m p,fun _ _ o=>?_,K⟩;have d0:=Gx m p;obtain⟨di,rfl⟩:∃k:Nat,d=(k:Int):=⟨d.toNat,AB⟩
 obtain⟨ia,rfl⟩:∃k:Nat,r=(k:Int):=⟨r.toNat,AB⟩
 obtain⟨ib,rfl⟩:∃k:Nat,s=(k:Int):=⟨s.toNat,AB⟩
 obtain⟨q,rfl⟩:∃k:Nat,h=(k:Int):=⟨h.toNat,AB⟩
 rw[Sc l m p,QX AB AB AB];exact jZ Ad (fun x=>by omega) AB
theorem TG(b:Option Addr)(n a:Nat)(z c cond:Int)(w:World):Ks 108 #[.agg #[.slice b n a,Vi z,Vi c],Vi cond] w fun e d=>(∃r:Int,e=.returned (Vi r))/\Below w.heap.size w d:=
 (Ko b n a (fun _=>zV) z c cond w).mono (fun _ _ h=>⟨⟨_,h.1⟩,h.2⟩)
def yS(nH:Nat)(S:Nat->HS)(V0:Nat->VV)(w:World)(e:Ending)(w':World):Prop:=
 ∃(g cg:Nat)(V':Nat->VV)(z' c':Int),e=.returned (.agg #[Vs g 8 cg,Vi z',Vi c'])/\w.heap.size<=g/\Ak w' g (8*6) (vF V')/\BK nH S 8 V0 8 V' z' c'=true/\Below w.heap.size w w'
theorem Tp(d:Nat)(S:Nat->HS)(a:Nat->VV)(j l:Nat)(V:Nat->VV)(z c:Int)(k m:Nat)(U:Nat->VV)(h b:Int)(w:World)(s:Ak w j (8*6) (vF V))(u:Ak w k (8*6) (vF U))(x:BK d S 8 a 8 V z c=true)(y:BK d S 8 a 8 U h b=true):
 Ks 109 #[.agg #[Vs j 8 l,Vi z,Vi c],.agg #[Vs k 8 m,Vi h,Vi b]] w (yS d S a w):=by
 refine(Kz j l V z c k m U h b w s u).mono ?_;rintro e A⟨g,n,o,p,q,r⟩;exact⟨g,n,_,_,_,o,p,q,Ri.join (G:=⟨d,S,a⟩) (F:=⟨V,z,c⟩) (B:=⟨U,h,b⟩) x y,r⟩
structure YW(nH:Nat)(S:Nat->HS)(V0:Nat->VV)(bA B ny:Nat)(err at':Int)(ao:Option Addr)(m cap:Nat)(z c rounds:Int)(u:World):Prop where
 Y:u.heap[ny]?=some (.cells #[Vi err,Vi at',.slice ao m cap,Vi z,Vi c,Vi rounds] 89)
 ab:err=0->∃(g cg:Nat)(V:Nat->VV),(Value.slice ao m cap)=Vs g 8 cg/\(g=bA∨B<=g)/\g≠ny/\Ak u g (8*6) (vF V)/\BK nH S 8 V0 8 V z c=true
theorem YW.cells{o:Nat}{S:Nat->HS}{O:Nat->VV}{K B a:Nat}{F p:Int}{U:Option Addr}{m cap:Nat}{z c b:Int}(h:YW o S O K B a F p U m cap z c b u):u.cell? (Va a 0)=some (Vi F)/\u.cell? (Va a 1)=some (Vi p)/\u.cell? (Va a 2)=some (.slice U m cap)/\u.cell? (Va a 3)=some (Vi z)/\u.cell? (Va a 4)=some (Vi c)/\u.cell? (Va a 5)=some (Vi b)/\(∀i,u.frozen? (Va a i)=false)/\a<u.heap.size:=
 ⟨(AJ h.Y 0).trans rfl,(AJ h.Y 1).trans rfl,(AJ h.Y 2).trans rfl,(AJ h.Y 3).trans rfl,(AJ h.Y 4).trans rfl,(AJ h.Y 5).trans rfl,CP h.Y,Bp h.Y⟩
def qy(nH:Nat)(S:Nat->HS)(V0:Nat->VV)(bA:Nat)(B:Nat)(w:World)(v:Value)(z c:Int):Prop:=
 ∃(g cg:Nat)(V:Nat->VV),v=Vs g 8 cg/\(g=bA∨B<=g)/\Ak w g (8*6) (vF V)/\BK nH S 8 V0 8 V z c=true
theorem uZ{o:Nat}{S:Nat->HS}{O:Nat->VV}{K B:Nat}{F at':Int}{U:Option Addr}{m Y:Nat}{z c rounds:Int}(h:F=0->qy o S O K B u (.slice U m Y) z c):YW o S O K B u.heap.size F at' U m Y z c rounds (u.alloc (.cells #[Vi F,Vi at',.slice U m Y,Vi z,Vi c,Vi rounds] 89)):=
 ⟨Az _ _,fun e=>by
   obtain⟨g,b,V,d,j,a,k⟩:=h e;exact⟨g,b,V,d,j,by have:=a.lt;omega,a.below Ai a.lt,k⟩⟩
def yK(nH:Nat)(S:Nat->HS)(V0:Nat->VV)(bA:Nat)(w:World)(e:Ending)(w':World):Prop:=
 ∃(err at':Int)(ao:Option Addr)(m cap:Nat)(z c rounds:Int),e=.returned (DV err at' (.slice ao m cap) z c rounds)/\0<=rounds/\rounds<=1000/\(err=0->qy nH S V0 bA w.heap.size w' (.slice ao m cap) z c)/\Below w.heap.size w w'
theorem Sk(h:List SV)(Y:h.length<=1048576)(Z:Wl h)(n u d:Nat)(S:Nat->HS)(o x:Nat)(j:Nat->VV)(k s:Nat)(V:Nat->VV)(z c b a:Int)(v:Value)(w:World)(A:d<=1048576)(B:Ck w n d S o 8 j)(C:Ak w k (8*6) (vF V))(D:BK d S 8 j 8 V z c=true)(E:SL w v h)(F:0<=a)(I:a<=1000)(J:0<=b:=by omega)(K:b+(h.length:Int)<=2097152:=by omega):
 Ks 31 #[.agg #[Vs n d u,Vs o 8 x],v,Vi b,.agg #[Vs k 8 s,Vi z,Vi c],Vi a] w (yK d S j k w):=by
 refine(NF Nn h Y Z n u d S o x j k s V z c b a v w A B C D E F I J K).mono ?_;rintro e w'⟨r,l,L,m,p,z2,M,r2,O,Q,R,_,U,X⟩;exact⟨r,l,L,m,p,z2,M,r2,O,Q,R,fun q=>by obtain⟨g,N,y,k1,k2,k3,k4,_⟩:=U q;exact⟨g,N,y,k1,k2,k3,k4⟩,X⟩
end Go.Proofs.YtcjnmdgomocpgaaGreatDoor
