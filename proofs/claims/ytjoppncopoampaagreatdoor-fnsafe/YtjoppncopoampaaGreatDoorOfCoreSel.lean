import Derived.Test.YtjoppncopoampaaGreatDoorOfCoreReg
import Derived.Test.YtjoppncopoampaaGreatDoorOfUnitSpec
import Derived.Test.YtjoppncopoampaaGreatDoorOfFlatAny
set_option maxHeartbeats 800000
namespace Go.Proofs.YtjoppncopoampaaGreatDoor
open Go.RowKit
variable {w:World}
theorem ownsRow_below{j:World}{l e s n:Nat}{v:Value}{d:List Value}(h:w.ownsRow l e s v n d)(m:Below w.heap.size w j):j.ownsRow l e s v n d:=by
 refine⟨h.1,?_⟩;rcases h.2 with k|⟨g,a,b,q,o,c,r⟩
 ·exact .inl k
 ·refine .inr ⟨g,a,b,q,o,?_,r⟩
  have:g<w.heap.size:=by
   by_cases p:g<w.heap.size
   ·exact p
   ·rw[Array.getElem?_eq_none AB]at c;cases c
  rw[m.block g this];exact c
theorem grownBy_below{j N:World}{p:Option Nat}(a:Below w.heap.size w j)(h:j.grownBy N p):w.grownBy N p:=
 ⟨h.os.trans a.os,h.tape.trans a.tape,h.output.trans a.output,Nat.le_trans a.size h.size,fun k c b=>(h.block k (Ey c a.size) b).trans (a.block k c)⟩
theorem QW(j c z A n:Nat)(op d a b s hh nx:Int)(f I:Bool)(C:Value)(Q:List Value)(w:World)(hn:n<=1048576)(Z:j<=w.heap.size)(B:c<w.heap.size)(hF:z<w.heap.size)(hW:A<w.heap.size)(m:some c≠C.ownBlock)
 (c8:w.cell? (Va c 8)=some C)(c9:w.cell? (Va c 9)=some (Vi nx))(hf:∀i,w.frozen? (Va c i)=false)(y:w.ownsRow j 213 2 C n Q)
 (h1:w.cell? (Va c 1)=some (.bool f))(h3:w.cell? (Va c 3)=some (.bool true))(cF:w.cell? (Va z 0)=some (.func (.func 129) #[] #[]))(cW:w.cell? (Va A 0)=some (.bool I)):
 Calls Tryz.prog 175 #[Vq c,.agg #[Vi op,Vi d,Vi a,Vi b,Vi s,Vi hh],Vq z,Vq A] w fun e F=>∃u o,e=.returned (.tuple #[])/\
  o.ownsRow j 213 2 u (n+1) (Q++[Vi 2,.int .u64 (if f==I then 1 else 0)])/\w.grownBy o C.ownBlock/\F=if f==I then(o.setCell (Va c 8) u).setCell (Va c 9) (Vi s)else o.setCell (Va c 8) u:=by
 have R:=hxy y;have HF:=hxy hf;clear y hf;go_enter Tryz.func175,Tryz.ntmps175;go_wp2_with fail;generalize N:w.alloc (.cells #[Vi op,Vi d,Vi a,Vi b,Vi s,Vi hh] 109)=k;have J:Bw w k:=by rw[<-N];exact Ai
 have xy:w.heap.size<k.heap.size:=by rw[<-N];simp
 have j4:k.cell? ⟨w.heap.size,4,none⟩=some (Vi s):=by rw[<-N];simp[go_sem]
 have zC:c<k.heap.size:=AB;have zF:z<k.heap.size:=AB;have zW:A<k.heap.size:=AB;have L:k.drew.cell? (Va c 1)=some (.bool f):=(J.cell (p:=Va c 1) B).trans h1;have e3:k.drew.cell? (Va c 3)=some (.bool true):=(J.cell (p:=Va c 3) B).trans h3;have R0:Cb k z 0 (.func (.func 129) #[] #[]):=fun F h=>(h.cell (p:=Va z 0) zF).trans ((J.cell (p:=Va z 0) hF).trans cF)
 have R1:Cb k A 0 (.bool I):=fun F h=>(h.cell (p:=Va A 0) zW).trans ((J.cell (p:=Va A 0) hW).trans cW)
 clear N h1 h3 cF cW;refine wp_region_held_drew (S:=fun F=>Bw k F) AV (BJ.drew) (fun hHeld=>?_);refine EX [0,1,3] ?_;refine wpAnyH_ready (rs:=[2]) AV AX ?_;refine AllReadyH.cons rfl (fun K hK=>?_) AllReadyH.nil;go_simp;refine(TS c f k.drew L e3).mono ?_;rintro e wa⟨rfl,l⟩;go_wp2_with fail;refine hK.out _ _ (BJ.drew.trans l) (fun O=>?_);clear hK K;refine AU 4 ?_;refine wpAnyH_done AV ?_ _;have x:Bw w wa:=J.trans ((BJ.drew.trans l).mono (Nat.le_of_lt xy));have xz:w.heap.size<wa.heap.size:=Ey xy l.size;have k4:=(l.cell (p:=⟨w.heap.size,4,none⟩) xy).trans j4;have D:=(x.cell (p:=Va c 8) B).trans c8;have k9:=(x.cell (p:=Va c 9) B).trans c9;have M:=(x.frozen (p:=Va c 8) B).trans (HF 8);have Y:=(x.frozen (p:=Va c 9) B).trans (HF 9);clear L e3 R0 R1 c8 c9 j4 l;cases hq:(f==I)with
 |true=>
  go_wp2_with fail;refine(I7 j c n C Q 2 1 _ hn AB AB m D M (ownsRow_below R x)).mono ?_;rintro e w2⟨u,o,rfl,E,q,r⟩;have hs:some w.heap.size≠C.ownBlock:=fun L=>by
   have:=(R.lt _ L.symm).2;omega
  have U:Hid _:=E;have X:=grownBy_below x q;have zc:c<wa.heap.size:=Ey B x.size;have q4:=(World.cell?_of_block (a:=⟨w.heap.size,4,none⟩) (q.block w.heap.size xz hs)).trans k4;have q9:=(World.cell?_of_block (a:=Va c 9) (q.block c zc m)).trans k9;have t9:=(World.frozen?_of_block (a:=Va c 9) (q.block c zc m)).trans Y;have q8:=(World.cell?_of_block (a:=Va c 8) (q.block c zc m)).trans D;have xn:c≠w.heap.size:=AB;have r4:=(World.cell?_setCell_far o ⟨c,8,none⟩ ⟨w.heap.size,4,none⟩ u xn).trans q4;have aa:=(World.frozen?_setCell o ⟨c,8,none⟩ ⟨c,9,none⟩ u).trans t9;clear E q k4 D k9 M Y;subst r;go_wp2;go_end0;exact⟨rfl,u,o,U,X,rfl⟩
 |false=>
  go_wp2_with fail;refine(I7 j c n C Q 2 0 _ hn AB AB m D M (ownsRow_below R x)).mono ?_;rintro e w2⟨u,o,rfl,E,q,r⟩;have U:Hid _:=E;have X:=grownBy_below x q;have HZ:Hid _:=r;clear E q r k4 D k9 M Y;go_wp2;all_goals go_end0
  all_goals exact⟨rfl,u,o,U,X,HZ⟩
theorem QV(j c z A n:Nat)(op d a b s hh nx:Int)(f I:Bool)(C:Value)(Q:List Value)(w:World)(hn:n<=1048576)(Z:j<=w.heap.size)(B:c<w.heap.size)(hF:z<w.heap.size)(hW:A<w.heap.size)(m:some c≠C.ownBlock)
 (c8:w.cell? (Va c 8)=some C)(c9:w.cell? (Va c 9)=some (Vi nx))(hf:∀i,w.frozen? (Va c i)=false)(y:w.ownsRow j 213 2 C n Q)
 (h1:w.cell? (Va c 2)=some (.bool f))(h3:w.cell? (Va c 4)=some (.bool true))(cF:w.cell? (Va z 0)=some (.func (.func 130) #[] #[]))(cW:w.cell? (Va A 0)=some (.bool I)):
 Calls Tryz.prog 175 #[Vq c,.agg #[Vi op,Vi d,Vi a,Vi b,Vi s,Vi hh],Vq z,Vq A] w fun e F=>∃u o,e=.returned (.tuple #[])/\
  o.ownsRow j 213 2 u (n+1) (Q++[Vi 2,.int .u64 (if f==I then 1 else 0)])/\w.grownBy o C.ownBlock/\F=if f==I then(o.setCell (Va c 8) u).setCell (Va c 9) (Vi s)else o.setCell (Va c 8) u:=by
 have R:=hxy y;have HF:=hxy hf;clear y hf;go_enter Tryz.func175,Tryz.ntmps175;go_wp2_with fail;generalize N:w.alloc (.cells #[Vi op,Vi d,Vi a,Vi b,Vi s,Vi hh] 109)=k;have J:Bw w k:=by rw[<-N];exact Ai
 have xy:w.heap.size<k.heap.size:=by rw[<-N];simp
 have j4:k.cell? ⟨w.heap.size,4,none⟩=some (Vi s):=by rw[<-N];simp[go_sem]
 have zC:c<k.heap.size:=AB;have zF:z<k.heap.size:=AB;have zW:A<k.heap.size:=AB;have L:k.drew.cell? (Va c 2)=some (.bool f):=(J.cell (p:=Va c 2) B).trans h1;have e3:k.drew.cell? (Va c 4)=some (.bool true):=(J.cell (p:=Va c 4) B).trans h3;have R0:Cb k z 0 (.func (.func 130) #[] #[]):=fun F h=>(h.cell (p:=Va z 0) zF).trans ((J.cell (p:=Va z 0) hF).trans cF)
 have R1:Cb k A 0 (.bool I):=fun F h=>(h.cell (p:=Va A 0) zW).trans ((J.cell (p:=Va A 0) hW).trans cW)
 clear N h1 h3 cF cW;refine wp_region_held_drew (S:=fun F=>Bw k F) AV (BJ.drew) (fun hHeld=>?_);refine EX [0,1,3] ?_;refine wpAnyH_ready (rs:=[2]) AV AX ?_;refine AllReadyH.cons rfl (fun K hK=>?_) AllReadyH.nil;go_simp;refine(MN c f k.drew L e3).mono ?_;rintro e wa⟨rfl,l⟩;go_wp2_with fail;refine hK.out _ _ (BJ.drew.trans l) (fun O=>?_);clear hK K;refine AU 4 ?_;refine wpAnyH_done AV ?_ _;have x:Bw w wa:=J.trans ((BJ.drew.trans l).mono (Nat.le_of_lt xy));have xz:w.heap.size<wa.heap.size:=Ey xy l.size;have k4:=(l.cell (p:=⟨w.heap.size,4,none⟩) xy).trans j4;have D:=(x.cell (p:=Va c 8) B).trans c8;have k9:=(x.cell (p:=Va c 9) B).trans c9;have M:=(x.frozen (p:=Va c 8) B).trans (HF 8);have Y:=(x.frozen (p:=Va c 9) B).trans (HF 9);clear L e3 R0 R1 c8 c9 j4 l;cases hq:(f==I)with
 |true=>
  go_wp2_with fail;refine(I7 j c n C Q 2 1 _ hn AB AB m D M (ownsRow_below R x)).mono ?_;rintro e w2⟨u,o,rfl,E,q,r⟩;have hs:some w.heap.size≠C.ownBlock:=fun L=>by
   have:=(R.lt _ L.symm).2;omega
  have U:Hid _:=E;have X:=grownBy_below x q;have zc:c<wa.heap.size:=Ey B x.size;have q4:=(World.cell?_of_block (a:=⟨w.heap.size,4,none⟩) (q.block w.heap.size xz hs)).trans k4;have q9:=(World.cell?_of_block (a:=Va c 9) (q.block c zc m)).trans k9;have t9:=(World.frozen?_of_block (a:=Va c 9) (q.block c zc m)).trans Y;have q8:=(World.cell?_of_block (a:=Va c 8) (q.block c zc m)).trans D;have xn:c≠w.heap.size:=AB;have r4:=(World.cell?_setCell_far o ⟨c,8,none⟩ ⟨w.heap.size,4,none⟩ u xn).trans q4;have aa:=(World.frozen?_setCell o ⟨c,8,none⟩ ⟨c,9,none⟩ u).trans t9;clear E q k4 D k9 M Y;subst r;go_wp2;go_end0;exact⟨rfl,u,o,U,X,rfl⟩
 |false=>
  go_wp2_with fail;refine(I7 j c n C Q 2 0 _ hn AB AB m D M (ownsRow_below R x)).mono ?_;rintro e w2⟨u,o,rfl,E,q,r⟩;have U:Hid _:=E;have X:=grownBy_below x q;have HZ:Hid _:=r;clear E q r k4 D k9 M Y;go_wp2;all_goals go_end0
  all_goals exact⟨rfl,u,o,U,X,HZ⟩
theorem kC(b:Nat)(d:Option Addr)(a c:Nat)(p:Int)(w:World)(k:b<w.heap.size)(j:w.cell? (Va b 6)=some (Vi p))(l:(a:Int)<=p):
 Calls Tryz.prog 70 #[Vq b,.slice d a c] w fun e h=>e=.panicked [{v:=.iface 163 (.agg #[]),recovered:=false}]/\Below w.heap.size w h:=by
 go_enter Tryz.func70,Tryz.ntmps70;go_wp2;exact⟨rfl,rfl,Ai⟩
theorem Y1(j b h c k p:Nat)(F:Nat->Nat->Int)(w:World)(x:j<w.heap.size)(u:w.cell? (Va j 6)=some (Vi p))(z:p<c)(a:At w b h (c*6) (Kt F)):
 Calls Tryz.prog 70 #[Vq j,.slice (some ⟨b,h,none⟩) c k] w fun e s=>e=.returned (.agg #[Vi (F p 0),Vi (F p 1),Vi (F p 2),Vi (F p 3),Vi (F p 4),Vi (F p 5)])/\Below w.heap.size w s:=by
 have d:=hxy a;have y:=a.lt;clear a;have l:=((d.cell (i:=p*6+0) AB).trans (congrArg some (Eo F p 0 AB)))
 rw[Nat.add_zero]at l;have m:=((d.cell (i:=p*6+1) AB).trans (congrArg some (Eo F p 1 AB)))
 rw[<-Nat.add_assoc]at m;have n:=((d.cell (i:=p*6+2) AB).trans (congrArg some (Eo F p 2 AB)))
 rw[<-Nat.add_assoc]at n;have o:=((d.cell (i:=p*6+3) AB).trans (congrArg some (Eo F p 3 AB)))
 rw[<-Nat.add_assoc]at o;have q:=((d.cell (i:=p*6+4) AB).trans (congrArg some (Eo F p 4 AB)))
 rw[<-Nat.add_assoc]at q;have r:=((d.cell (i:=p*6+5) AB).trans (congrArg some (Eo F p 5 AB)))
 rw[<-Nat.add_assoc]at r;go_enter Tryz.func70,Tryz.ntmps70;go_wp2;exact bodyPost_ret (v:=.agg #[Vi (F p 0),Vi (F p 1),Vi (F p 2),Vi (F p 3),Vi (F p 4),Vi (F p 5)]) (by simp[results,Tryz.results70,go_sem]) rfl ⟨rfl,Ai⟩
theorem KN(h j k a:Nat)(n d b c m:Int)(R:Nat->Int)(w:World)(s:a<8)(q:h<w.heap.size)(r:j<w.heap.size)
 (p:w.cell? (Va h 0)=some (Vs j 8 k))(u:w.cell? (Va j a)=some (.int .u64 (R a))):
 Calls Tryz.prog 132 #[Vq h,.agg #[Vi n,Vi d,Vi a,Vi b,Vi c,Vi m]] w fun e o=>e=.returned (.int .u64 (IntKind.u64.wrap (R a+IntKind.u64.wrap c)))/\Below w.heap.size w o:=by
 have l:(a:Int)<8:=AB;go_enter Tryz.func132,Tryz.ntmps132;go_wp2;go_region;all_goals(go_wp2;go_ret;exact⟨rfl,(Ai).drew⟩)
theorem Kh(h c j a b:Nat)(o d k n:Int)(R:Nat->Int)(w:World)(u:a<8)(x:b<8)(r:h<w.heap.size)(s:c<w.heap.size)
 (q:w.cell? (Va h 0)=some (Vs c 8 j))(y:w.cell? (Va c a)=some (.int .u64 (R a)))(z:w.cell? (Va c b)=some (.int .u64 (R b))):
 Calls Tryz.prog 134 #[Vq h,.agg #[Vi o,Vi d,Vi a,Vi b,Vi k,Vi n]] w fun e p=>e=.returned (.int .u64 (IntKind.u64.wrap (R a+R b)))/\Below w.heap.size w p:=by
 have l:(a:Int)<8:=AB;have m:(b:Int)<8:=AB;go_enter Tryz.func134,Tryz.ntmps134;go_wp2;go_region;all_goals(go_wp2;go_ret;exact⟨rfl,(Ai).drew⟩)
def lies(base address width:Int)(len:Nat):Bool:=decide (base<=address)&&decide (width<=len)&&decide (address-base<=len-width)
theorem Vm(c a b:Int)(wr:Bool)(k:Option Addr)(d h:Nat)(w:World)(j:d<=1048576)(m:0<=c)(n:0<=a)(o:0<=b)(p:a<=18446744073709551615)(q:c<=18446744073709551615)(r:b<=8):
 Calls Tryz.prog 199 #[.agg #[.int .u64 c,.bool wr,.slice k d h],.int .u64 a,.int .u64 b] w fun e l=>e=.returned (.bool (lies c a b d))/\Below w.heap.size w l:=by
 go_enter Tryz.func199,Tryz.ntmps199;go_wp2;all_goals(go_ret;refine⟨congrArg (fun x=>Ending.returned (.bool x)) ?_,Ai⟩)
 all_goals(simp[lies];try omega)
def Seen(base bC n:Nat)(vO:Value)(xs:List Value)(kind val:Int)(w w':World):Prop:=
 ∃v' w1,w1.ownsRow base 213 2 v' (n+1) (xs++[Vi kind,.int .u64 val])/\w.grownBy w1 vO.ownBlock/\Below w1.heap.size (w1.setCell (Va bC 8) v') w'
theorem Qw(c d n:Nat)(m:Value)(q:List Value)(z:Option Addr)(s C:Nat)(h b j:Int)(wr:Bool)(w:World)(F:n<=1048576)(o:c<=w.heap.size)(D:d<w.heap.size)(k:some d≠m.ownBlock)
 (A:w.cell? (Va d 5)=some (.slice z s C))(B:w.cell? (Va d 8)=some m)(E:w.frozen? (Va d 8)=false)(l:w.ownsRow c 213 2 m n q)(M:(s:Int)<=h):
 Calls Tryz.prog 173 #[Vq d,Vi h,.int .u64 b,.int .u64 j,.bool wr] w fun e K=>e=.panicked [{v:=.iface 163 (.agg #[]),recovered:=false}]/\Seen c d n m q 1 b w K:=by
 have u:=hxy l;go_enter Tryz.func173,Tryz.ntmps173;go_wp2_with fail;refine(I7 c d n m q _ b _ F AB AB k B E u).mono ?_;rintro e O⟨J,L,rfl,I,r,p⟩;have N:=(World.cell?_of_block (a:=Va d 5) (r.block d D k)).trans A;have x:Hid _:=I;have y:Hid _:=r;subst p;go_wp2;exact⟨rfl,rfl,J,L,x,y,Below.refl _ _⟩
theorem UA(j k l S n:Nat)(u:Value)(E:List Value)(L cH h:Nat)(d:Nat->Bv)(b:Int)(c:Nat)(wr:Bool)(w:World)(hn:n<=1048576)(I:j<=w.heap.size)(Y:k<w.heap.size)(A:some k≠u.ownBlock)(J:some l≠u.ownBlock)(s:k≠l)
 (U:w.cell? (Va k 5)=some (Vs l L cH))(X:w.cell? (Va k 8)=some u)(hf:w.frozen? (Va k 8)=false)(r:w.ownsRow j 213 2 u n E)(hh:h<L)(m:At w l 0 (L*3) (CO d))
 (z:(d h).len<=1048576)(h0:0<=(d h).base)(h4:(d h).base<=18446744073709551615)(h1:0<=b)(h3:b<=18446744073709551615)(h2:1<=c)(h5:c<=8)(F:(d h).len≠0->(d h).ao=some ⟨S,0,none⟩)(aa:(d h).len<=(d h).cap):
 Calls Tryz.prog 173 #[Vq k,Vi h,.int .u64 b,.int .u64 c,.bool wr] w fun e w'=>Seen j k n u E 1 b w w'/\
  (if lies (d h).base b c (d h).len&&(!wr||(d h).wr)then e=.returned (.slice (some ⟨S,(b-(d h).base).toNat,none⟩) c ((d h).cap-(b-(d h).base).toNat))else e=.panicked [{v:=.iface 163 (.agg #[]),recovered:=false}]):=by
 have N:=hxy r;clear r;go_enter Tryz.func173,Tryz.ntmps173;go_wp2_with fail;refine(I7 j k n u E _ b _ hn AB AB A X hf N).mono ?_;rintro e w2⟨D,q,rfl,o1,x,K⟩;have q5:=(World.cell?_of_block (a:=Va k 5) (x.block k Y A)).trans U;have Z:=m.lt;have C:=x.block l Z J;have p0:=(World.cell?_of_block (a:=Va l (h*3)) C).trans ((by simpa using m.cell (i:=h*3+0) AB:w.cell? (Va l (h*3))=some (CO d (h*3+0))).trans (congrArg some (Iz d h)));have p1:=(World.cell?_of_block (a:=Va l (h*3+1)) C).trans ((by simpa using m.cell (i:=h*3+1) AB:w.cell? (Va l (h*3+1))=some (CO d (h*3+1))).trans (congrArg some (JE d h)));have p2:=(World.cell?_of_block (a:=Va l (h*3+2)) C).trans ((by simpa using m.cell (i:=h*3+2) AB:w.cell? (Va l (h*3+2))=some (CO d (h*3+2))).trans (congrArg some (GD d h)));have r0:=(World.cell?_setCell_far q ⟨k,8,none⟩ ⟨l,h*3,none⟩ D s).trans p0;have r1:=(World.cell?_setCell_far q ⟨k,8,none⟩ ⟨l,h*3+1,none⟩ D s).trans p1;have r2:=(World.cell?_setCell_far q ⟨k,8,none⟩ ⟨l,h*3+2,none⟩ D s).trans p2;have zH:l<q.heap.size:=Ey Z x.size;have zC:k<q.heap.size:=Ey Y x.size;have Q:Hid _:=o1;have R:Hid _:=x;have HA:Hid _:=m;clear o1 x X hf U m C p0 p1 p2;subst K;go_wp2_with fail;refine(Vm _ b c _ _ _ _ _ z h0 h1 AB h3 h4 AB).mono ?_;rintro e w3⟨rfl,o⟩;have s0:=(o.cell (p:=⟨q.heap.size,0,none⟩) AX).trans (show _=some (Value.int .u64 (d h).base)by simp[go_sem]);have M:=(o.cell (p:=⟨q.heap.size,1,none⟩) AX).trans (show _=some (Value.bool (d h).wr)by simp[go_sem]);have s2:=(o.cell (p:=⟨q.heap.size,2,none⟩) AX).trans (show _=some (Value.slice (d h).ao (d h).len (d h).cap)by simp[go_sem]);have HS:Hid (Seen j k n u E 1 b w w3):=⟨D,q,Q,R,(BJ.alloc AX _).trans (o.mono AX)⟩
 clear o r0 r1 r2 q5 Q R HA N;cases hl:lies (d h).base b c (d h).len with
 |false=>
  clear s0 M s2;go_wp2;all_goals exact⟨rfl,HS,rfl⟩
 |true=>
  have y:=hl;simp only[lies,Bool.and_eq_true,decide_eq_true_eq]at y;have l1:=y;have HL:Hid _:=hl;clear hl;have ha:=F AB;have B:(b-(d h).base+(c:Int)).toNat-(b-(d h).base).toNat=c:=AB;have O:Hid _:=B;clear B;rw[ha]at s2;cases wr with
  |false=>
   go_wp2;all_goals(go_ret;exact⟨HS,by rw[O.out];rfl⟩)
  |true=>
   cases hw:(d h).wr with
   |false=>
    rw[hw]at M;go_wp2;all_goals exact⟨rfl,HS,rfl⟩
   |true=>
    rw[hw]at M;go_wp2;all_goals(go_ret;exact⟨HS,by rw[O.out];rfl⟩)
theorem Seen.of_below{l c n:Nat}{vO:Value}{d:List Value}{b val:Int}{N w2:World}(a:Below w.heap.size w N)(h:Seen l c n vO d b val N w2):Seen l c n vO d b val w w2:=by
 obtain⟨e,u,o,g,k⟩:=h;exact⟨e,u,o,grownBy_below a g,k⟩
theorem Uc{f:Nat}(N:∀q w,(callFunc f q).run Tryz.prog w=.ok (.enter f q) w)(r A u x n:Nat)(O:Value)(R:List Value)(F d a b o D j k:Int)(w:World)(hF:u<w.heap.size)(U:x<w.heap.size)
 (L:w.cell? (Va u 0)=some (.func (.func f) #[] #[]))(M:w.cell? (Va x 0)=some (.int .u64 k))
 (B:∀c,Below w.heap.size w c->Calls Tryz.prog f #[Vq A,.agg #[Vi F,Vi d,Vi a,Vi b,Vi o,Vi D]] c fun e z=>e=.returned (.int .u64 j)/\Below c.heap.size c z)
 (y:∀c,Below w.heap.size w c->Calls Tryz.prog 173 #[Vq A,Vi D,.int .u64 j,.int .u64 k,.bool false] c fun e z=>e=.panicked [{v:=.iface 163 (.agg #[]),recovered:=false}]/\Seen r A n O R 1 j c z):
 Calls Tryz.prog 172 #[Vq A,.agg #[Vi F,Vi d,Vi a,Vi b,Vi o,Vi D],Vq u,Vq x] w fun e c=>e=.panicked [{v:=.iface 163 (.agg #[]),recovered:=false}]/\Seen r A n O R 1 j w c:=by
 go_enter Tryz.func172,Tryz.ntmps172;go_wp2_with fail;generalize m:w.alloc (.cells #[Vi F,Vi d,Vi a,Vi b,Vi o,Vi D] 109)=l;have I:Bw w l:=by rw[<-m];exact Ai
 have s:w.heap.size<l.heap.size:=by rw[<-m];simp
 have j0:∀c,Bw l c->c.cell? ⟨w.heap.size,0,none⟩=some (Vi F):=fun c h=>(h.cell (p:=⟨w.heap.size,0,none⟩) s).trans (by rw[<-m];simp[go_sem])
 have j1:∀c,Bw l c->c.cell? ⟨w.heap.size,1,none⟩=some (Vi d):=fun c h=>(h.cell (p:=⟨w.heap.size,1,none⟩) s).trans (by rw[<-m];simp[go_sem])
 have j2:∀c,Bw l c->c.cell? ⟨w.heap.size,2,none⟩=some (Vi a):=fun c h=>(h.cell (p:=⟨w.heap.size,2,none⟩) s).trans (by rw[<-m];simp[go_sem])
 have j3:∀c,Bw l c->c.cell? ⟨w.heap.size,3,none⟩=some (Vi b):=fun c h=>(h.cell (p:=⟨w.heap.size,3,none⟩) s).trans (by rw[<-m];simp[go_sem])
 have j4:∀c,Bw l c->c.cell? ⟨w.heap.size,4,none⟩=some (Vi o):=fun c h=>(h.cell (p:=⟨w.heap.size,4,none⟩) s).trans (by rw[<-m];simp[go_sem])
 have j5:∀c,Bw l c->c.cell? ⟨w.heap.size,5,none⟩=some (Vi D):=fun c h=>(h.cell (p:=⟨w.heap.size,5,none⟩) s).trans (by rw[<-m];simp[go_sem])
 have zF:u<l.heap.size:=AB;have Z:x<l.heap.size:=AB;have R0:Cb l u 0 (.func (.func f) #[] #[]):=fun c h=>(h.cell (p:=Va u 0) zF).trans ((I.cell (p:=Va u 0) hF).trans L)
 have R1:Cb l x 0 (.int .u64 k):=fun c h=>(h.cell (p:=Va x 0) Z).trans ((I.cell (p:=Va x 0) U).trans M)
 clear m L M;refine wp_region_held_drew (S:=fun c=>Bw l c) AV (BJ.drew) (fun hHeld=>?_);refine EX [0,1,2,3,4,5,7] ?_;refine wpAnyH_ready (rs:=[6]) AV AX ?_;refine AllReadyH.cons rfl (fun K J=>?_) AllReadyH.nil;go_simp;refine(B _ (I.trans (BJ.drew.mono (Nat.le_of_lt s)))).mono ?_;rintro e Y⟨rfl,C⟩;go_wp2_with fail;refine J.out _ _ (BJ.drew.trans C) (fun E=>?_);clear J K;refine wpAnyH_ready (rs:=[8]) AV AX ?_;refine AllReadyH.cons rfl (fun K J=>?_) AllReadyH.nil;go_simp;have Q:Bw w Y:=I.trans ((BJ.drew.trans C).mono (Nat.le_of_lt s));refine(y _ Q).mono ?_;rintro e w2⟨rfl,X⟩;exact⟨rfl,rfl,Seen.of_below Q X⟩
theorem Qt{f:Nat}(N:∀q w,(callFunc f q).run Tryz.prog w=.ok (.enter f q) w)(r A u x n:Nat)(O:Value)(R:List Value)(F d a b o D j k:Int)(w:World)(hF:u<w.heap.size)(U:x<w.heap.size)
 (L:w.cell? (Va u 0)=some (.func (.func f) #[] #[]))(M:w.cell? (Va x 0)=some (.int .u64 k))
 (B:∀c,Below w.heap.size w c->Calls Tryz.prog f #[Vq A,.agg #[Vi F,Vi d,Vi a,Vi b,Vi o,Vi D]] c fun e z=>e=.returned (.int .u64 j)/\Below c.heap.size c z)
 (y:∀c,Below w.heap.size w c->Calls Tryz.prog 173 #[Vq A,Vi D,.int .u64 j,.int .u64 k,.bool true] c fun e z=>e=.panicked [{v:=.iface 163 (.agg #[]),recovered:=false}]/\Seen r A n O R 1 j c z):
 Calls Tryz.prog 174 #[Vq A,.agg #[Vi F,Vi d,Vi a,Vi b,Vi o,Vi D],Vq u,Vq x] w fun e c=>e=.panicked [{v:=.iface 163 (.agg #[]),recovered:=false}]/\Seen r A n O R 1 j w c:=by
 go_enter Tryz.func174,Tryz.ntmps174;go_wp2_with fail;generalize m:w.alloc (.cells #[Vi F,Vi d,Vi a,Vi b,Vi o,Vi D] 109)=l;have I:Bw w l:=by rw[<-m];exact Ai
 have s:w.heap.size<l.heap.size:=by rw[<-m];simp
 have j0:∀c,Bw l c->c.cell? ⟨w.heap.size,0,none⟩=some (Vi F):=fun c h=>(h.cell (p:=⟨w.heap.size,0,none⟩) s).trans (by rw[<-m];simp[go_sem])
 have j1:∀c,Bw l c->c.cell? ⟨w.heap.size,1,none⟩=some (Vi d):=fun c h=>(h.cell (p:=⟨w.heap.size,1,none⟩) s).trans (by rw[<-m];simp[go_sem])
 have j2:∀c,Bw l c->c.cell? ⟨w.heap.size,2,none⟩=some (Vi a):=fun c h=>(h.cell (p:=⟨w.heap.size,2,none⟩) s).trans (by rw[<-m];simp[go_sem])
 have j3:∀c,Bw l c->c.cell? ⟨w.heap.size,3,none⟩=some (Vi b):=fun c h=>(h.cell (p:=⟨w.heap.size,3,none⟩) s).trans (by rw[<-m];simp[go_sem])
 have j4:∀c,Bw l c->c.cell? ⟨w.heap.size,4,none⟩=some (Vi o):=fun c h=>(h.cell (p:=⟨w.heap.size,4,none⟩) s).trans (by rw[<-m];simp[go_sem])
 have j5:∀c,Bw l c->c.cell? ⟨w.heap.size,5,none⟩=some (Vi D):=fun c h=>(h.cell (p:=⟨w.heap.size,5,none⟩) s).trans (by rw[<-m];simp[go_sem])
 have zF:u<l.heap.size:=AB;have Z:x<l.heap.size:=AB;have R0:Cb l u 0 (.func (.func f) #[] #[]):=fun c h=>(h.cell (p:=Va u 0) zF).trans ((I.cell (p:=Va u 0) hF).trans L)
 have R1:Cb l x 0 (.int .u64 k):=fun c h=>(h.cell (p:=Va x 0) Z).trans ((I.cell (p:=Va x 0) U).trans M)
 clear m L M;refine wp_region_held_drew (S:=fun c=>Bw l c) AV (BJ.drew) (fun hHeld=>?_);refine EX [0,1,2,3,4,5,7] ?_;refine wpAnyH_ready (rs:=[6]) AV AX ?_;refine AllReadyH.cons rfl (fun K J=>?_) AllReadyH.nil;go_simp;refine(B _ (I.trans (BJ.drew.mono (Nat.le_of_lt s)))).mono ?_;rintro e Y⟨rfl,C⟩;go_wp2_with fail;refine J.out _ _ (BJ.drew.trans C) (fun E=>?_);clear J K;refine wpAnyH_ready (rs:=[8]) AV AX ?_;refine AllReadyH.cons rfl (fun K J=>?_) AllReadyH.nil;go_simp;have Q:Bw w Y:=I.trans ((BJ.drew.trans C).mono (Nat.le_of_lt s));refine(y _ Q).mono ?_;rintro e w2⟨rfl,X⟩;exact⟨rfl,rfl,Seen.of_below Q X⟩
theorem Zc(h:Nat)(o d a b j n:Int)(c:Bool)(w:World)(m:h<w.heap.size)(q:w.cell? (Va h 2)=some (.bool c))(r:w.cell? (Va h 4)=some (.bool false)):
 Calls Tryz.prog 124 #[Vq h,.agg #[Vi o,Vi d,Vi a,Vi b,Vi j,Vi n]] w fun e s=>e=.panicked [{v:=.iface 163 (.agg #[]),recovered:=false}]/\Below w.heap.size w s:=by
 go_enter Tryz.func124,Tryz.ntmps124;go_wp2_with fail;have l:Bw w (w.alloc (.cells #[Vi o,Vi d,Vi a,Vi b,Vi j,Vi n] 109)):=Ai;refine(PI h c _ (by simp;omega) ((l.cell (p:=Va h 2) m).trans q) ((l.cell (p:=Va h 4) m).trans r)).mono ?_;rintro e u⟨rfl,k⟩;exact⟨rfl,rfl,l.trans (k.mono AX)⟩
theorem UE(j k l:Nat)(x d a b m u:Int)(f y:Bool)(w:World)(r:j<w.heap.size)(hF:k<w.heap.size)(F:l<w.heap.size)
 (D:w.cell? (Va j 1)=some (.bool f))(E:w.cell? (Va j 3)=some (.bool false))(z:w.cell? (Va k 0)=some (.func (.func 129) #[] #[]))(A:w.cell? (Va l 0)=some (.bool y)):
 Calls Tryz.prog 175 #[Vq j,.agg #[Vi x,Vi d,Vi a,Vi b,Vi m,Vi u],Vq k,Vq l] w fun e n=>e=.panicked [{v:=.iface 163 (.agg #[]),recovered:=false}]/\Below w.heap.size w n:=by
 go_enter Tryz.func175,Tryz.ntmps175;go_wp2_with fail;generalize s:w.alloc (.cells #[Vi x,Vi d,Vi a,Vi b,Vi m,Vi u] 109)=c;have o:Bw w c:=by rw[<-s];exact Ai
 have I:w.heap.size<c.heap.size:=by rw[<-s];simp
 have J:j<c.heap.size:=AB;have zF:k<c.heap.size:=AB;have L:l<c.heap.size:=AB;have B:c.drew.cell? (Va j 1)=some (.bool f):=(o.cell (p:=Va j 1) r).trans D;have C:c.drew.cell? (Va j 3)=some (.bool false):=(o.cell (p:=Va j 3) r).trans E;have M:Cb c k 0 (.func (.func 129) #[] #[]):=fun n h=>(h.cell (p:=Va k 0) zF).trans ((o.cell (p:=Va k 0) hF).trans z)
 have N:Cb c l 0 (.bool y):=fun n h=>(h.cell (p:=Va l 0) L).trans ((o.cell (p:=Va l 0) F).trans A)
 refine wp_region_held_drew (S:=fun n=>Bw c n) AV (BJ.drew) (fun hHeld=>?_);refine EX [0,1,3] ?_;refine wpAnyH_ready (rs:=[2]) AV AX ?_;refine AllReadyH.cons rfl (fun K O=>?_) AllReadyH.nil;go_simp;refine(Xh j f c.drew (by exact J) B C).mono ?_;rintro e Q⟨rfl,q⟩;exact⟨rfl,rfl,o.trans ((BJ.drew.trans q).mono (Nat.le_of_lt I))⟩
theorem U0(j k l:Nat)(x d a b m u:Int)(f y:Bool)(w:World)(r:j<w.heap.size)(hF:k<w.heap.size)(F:l<w.heap.size)
 (D:w.cell? (Va j 2)=some (.bool f))(E:w.cell? (Va j 4)=some (.bool false))(z:w.cell? (Va k 0)=some (.func (.func 130) #[] #[]))(A:w.cell? (Va l 0)=some (.bool y)):
 Calls Tryz.prog 175 #[Vq j,.agg #[Vi x,Vi d,Vi a,Vi b,Vi m,Vi u],Vq k,Vq l] w fun e n=>e=.panicked [{v:=.iface 163 (.agg #[]),recovered:=false}]/\Below w.heap.size w n:=by
 go_enter Tryz.func175,Tryz.ntmps175;go_wp2_with fail;generalize s:w.alloc (.cells #[Vi x,Vi d,Vi a,Vi b,Vi m,Vi u] 109)=c;have o:Bw w c:=by rw[<-s];exact Ai
 have I:w.heap.size<c.heap.size:=by rw[<-s];simp
 have J:j<c.heap.size:=AB;have zF:k<c.heap.size:=AB;have L:l<c.heap.size:=AB;have B:c.drew.cell? (Va j 2)=some (.bool f):=(o.cell (p:=Va j 2) r).trans D;have C:c.drew.cell? (Va j 4)=some (.bool false):=(o.cell (p:=Va j 4) r).trans E;have M:Cb c k 0 (.func (.func 130) #[] #[]):=fun n h=>(h.cell (p:=Va k 0) zF).trans ((o.cell (p:=Va k 0) hF).trans z)
 have N:Cb c l 0 (.bool y):=fun n h=>(h.cell (p:=Va l 0) L).trans ((o.cell (p:=Va l 0) F).trans A)
 refine wp_region_held_drew (S:=fun n=>Bw c n) AV (BJ.drew) (fun hHeld=>?_);refine EX [0,1,3] ?_;refine wpAnyH_ready (rs:=[2]) AV AX ?_;refine AllReadyH.cons rfl (fun K O=>?_) AllReadyH.nil;go_simp;refine(PI j f c.drew (by exact J) B C).mono ?_;rintro e Q⟨rfl,q⟩;exact⟨rfl,rfl,o.trans ((BJ.drew.trans q).mono (Nat.le_of_lt I))⟩
theorem Vv(h j o d a b:Nat)(y m x:Int)(R:Nat->Int)(z c C B:Bool)(w:World)(hd:d<8)(ha:a<8)(hb:b<8)(l:h<w.heap.size)(q:j<w.heap.size)(r:h≠j)(pa:0<=R a)(pb:0<=R b)
 (E:w.cell? (Va h 0)=some (Vs j 8 o))(ra:w.cell? (Va j a)=some (.int .u64 (R a)))(rb:w.cell? (Va j b)=some (.int .u64 (R b)))(rd:w.cell? (Va j d)=some (.int .u64 (R d)))(u:w.frozen? (Va j d)=false)(U:w.cell? (Va h 1)=some (.bool z))(X:w.cell? (Va h 2)=some (.bool c))(Y:w.cell? (Va h 3)=some (.bool C))(Z:w.cell? (Va h 4)=some (.bool B))(hf:∀i,w.frozen? (Va h i)=false):
 Calls Tryz.prog 123 #[Vq h,.agg #[Vi y,Vi d,Vi a,Vi b,Vi m,Vi x]] w fun e w'=>e=.returned (.tuple #[])/\Below w.heap.size (flagged (w.setCell (Va j d) (.int .u64 (Ih (R a) (R b) 0))) h (Ih (R a) (R b) 0) (carry (R a) (R b) 0)) w':=by
 go_enter Tryz.func123,Tryz.ntmps123;go_wp2_with fail;generalize A:w.alloc (.cells #[Vi y,Vi d,Vi a,Vi b,Vi m,Vi x] 109)=n;have k:Bw w n:=by rw[<-A];exact Ai
 have xz:w.heap.size<n.heap.size:=by rw[<-A];simp
 have F:=(k.cell (p:=Va h 0) l).trans E;have I:=(k.cell (p:=Va h 1) l).trans U;have J:=(k.cell (p:=Va h 2) l).trans X;have K:=(k.cell (p:=Va h 3) l).trans Y;have L:=(k.cell (p:=Va h 4) l).trans Z;have M:=(k.cell (p:=Va j a) q).trans ra;have N:=(k.cell (p:=Va j b) q).trans rb;have O:=(k.cell (p:=Va j d) q).trans rd;have Q:=(k.frozen (p:=Va j d) q).trans u;have S:∀i,n.frozen? (Va h i)=false:=fun i=>(k.frozen (p:=Va h i) l).trans (hf i)
 have zC:h<n.heap.size:=AB;have zR:j<n.heap.size:=AB;refine(Jf h j o d a b y m x 0 R z c C B n hd ha hb zC zR r AB AB pa pb F M N O Q I J K L S).mono ?_;rintro e w1⟨rfl,s⟩;have D:Hid _:=(Cr l (Dp k q (.int .u64 (Ih (R a) (R b) 0)))).trans (s.mono (Nat.le_of_lt xz));go_wp2;go_end0;exact⟨rfl,D⟩
theorem Xu(h j q d a b:Nat)(B l A:Int)(R:Nat->Int)(z c E:Bool)(w:World)(hd:d<8)(ha:a<8)(hb:b<8)(m:h<w.heap.size)(u:j<w.heap.size)(y:h≠j)(pa:0<=R a)(pb:0<=R b)
 (c0:w.cell? (Va h 0)=some (Vs j 8 q))(ra:w.cell? (Va j a)=some (.int .u64 (R a)))(rb:w.cell? (Va j b)=some (.int .u64 (R b)))(rd:w.cell? (Va j d)=some (.int .u64 (R d)))(D:w.frozen? (Va j d)=false)(h1:w.cell? (Va h 1)=some (.bool z))(Y:w.cell? (Va h 2)=some (.bool c))(h3:w.cell? (Va h 3)=some (.bool E))(Z:w.cell? (Va h 4)=some (.bool true))(hf:∀i,w.frozen? (Va h i)=false):
 Calls Tryz.prog 124 #[Vq h,.agg #[Vi B,Vi d,Vi a,Vi b,Vi l,Vi A]] w fun e w'=>e=.returned (.tuple #[])/\Below w.heap.size (flagged (w.setCell (Va j d) (.int .u64 (Ih (R a) (R b) (if c then 1 else 0)))) h (Ih (R a) (R b) (if c then 1 else 0)) (carry (R a) (R b) (if c then 1 else 0))) w':=by
 go_enter Tryz.func124,Tryz.ntmps124;go_wp2_with fail;generalize o:w.alloc (.cells #[Vi B,Vi d,Vi a,Vi b,Vi l,Vi A] 109)=n;have F:Bw w n:=by rw[<-o];exact Ai
 have I:w.heap.size<n.heap.size:=by rw[<-o];simp
 have j0:n.cell? ⟨w.heap.size,0,none⟩=some (Vi B):=by rw[<-o];simp[go_sem]
 have j1:n.cell? ⟨w.heap.size,1,none⟩=some (Vi d):=by rw[<-o];simp[go_sem]
 have j2:n.cell? ⟨w.heap.size,2,none⟩=some (Vi a):=by rw[<-o];simp[go_sem]
 have j3:n.cell? ⟨w.heap.size,3,none⟩=some (Vi b):=by rw[<-o];simp[go_sem]
 have j4:n.cell? ⟨w.heap.size,4,none⟩=some (Vi l):=by rw[<-o];simp[go_sem]
 have j5:n.cell? ⟨w.heap.size,5,none⟩=some (Vi A):=by rw[<-o];simp[go_sem]
 refine(MN h c n ((F.cell (p:=Va h 2) m).trans Y) ((F.cell (p:=Va h 4) m).trans Z)).mono ?_;rintro e x⟨rfl,r⟩;have k:=F.trans (r.mono (Nat.le_of_lt I));have xz:w.heap.size<x.heap.size:=Ey I r.size;have J:=(k.cell (p:=Va h 0) m).trans c0;have K:=(k.cell (p:=Va h 1) m).trans h1;have L:=(k.cell (p:=Va h 2) m).trans Y;have M:=(k.cell (p:=Va h 3) m).trans h3;have N:=(k.cell (p:=Va h 4) m).trans Z;have O:=(k.cell (p:=Va j a) u).trans ra;have Q:=(k.cell (p:=Va j b) u).trans rb;have S:=(k.cell (p:=Va j d) u).trans rd;have U:=(k.frozen (p:=Va j d) u).trans D;have X:∀i,x.frozen? (Va h i)=false:=fun i=>(k.frozen (p:=Va h i) m).trans (hf i)
 have zC:h<x.heap.size:=AB;have zR:j<x.heap.size:=AB;have k0:=yh r I j0 j1 j2 j3 j4 j5;cases c with
 |true=>
  go_wp2_with fail;refine(Jf h j q d a b B l A 1 R z true E true x hd ha hb zC zR y AB AB pa pb J O Q S U K L M N X).mono ?_;rintro e w1⟨rfl,s⟩;have C:Hid _:=(Cr m (Dp k u (.int .u64 (Ih (R a) (R b) 1)))).trans (s.mono (Nat.le_of_lt xz));go_wp2;go_end0;exact⟨rfl,C⟩
 |false=>
  go_wp2_with fail;refine(Jf h j q d a b B l A 0 R z false E true x hd ha hb zC zR y AB AB pa pb J O Q S U K L M N X).mono ?_;rintro e w1⟨rfl,s⟩;have C:Hid _:=(Cr m (Dp k u (.int .u64 (Ih (R a) (R b) 0)))).trans (s.mono (Nat.le_of_lt xz));go_wp2;go_end0;exact⟨rfl,C⟩
theorem Fy{B:Nat}{W X:World}(h:Below B W X){p:Addr}(_hp:p.block<B)(v:Value):Below B (W.setCell p v) (X.setCell p v):=by
 refine⟨h.os,h.tape,h.output,by simpa using h.size,fun k a=>?_⟩;by_cases e:k=p.block
 ·subst e
  have b:=h.block p.block a;unfold World.setCell;simp only[Array.getElem?_modify,b]
 ·rw[heap_setCell_other _ _ _ _ e,heap_setCell_other _ _ _ _ e]
  exact h.block k a
theorem jV(j c u d a b s:Nat)(I q C:Int)(R:Nat->Int)(f:Bool)(w:World)(hd:d<8)(ha:a<8)(hb:b<8)(x:j<w.heap.size)(m:c<w.heap.size)(hF:s<w.heap.size)
 (z:w.cell? (Va j 0)=some (Vs c 8 u))(J:w.cell? (Va c a)=some (.int .u64 (R a)))(K:w.cell? (Va c b)=some (.int .u64 (R b)))(L:w.cell? (Va c d)=some (.int .u64 (R d)))(o:w.frozen? (Va c d)=false)
 (A:w.cell? (Va j 1)=some (.bool f))(B:w.cell? (Va j 3)=some (.bool true))(M:w.cell? (Va s 0)=some (.func (.func 129) #[] #[])):
 Calls Tryz.prog 170 #[Vq j,.agg #[Vi I,Vi d,Vi a,Vi b,Vi q,Vi C],Vq s] w fun e S=>e=.returned (.tuple #[])/\Below w.heap.size (w.setCell (Va c d) (.int .u64 (if f then R a else R b))) S:=by
 have Q:(d:Int)<8:=AB;have N:(a:Int)<8:=AB;have O:(b:Int)<8:=AB;go_enter Tryz.func170,Tryz.ntmps170;go_wp2_with fail;generalize l:w.alloc (.cells #[Vi I,Vi d,Vi a,Vi b,Vi q,Vi C] 109)=n;have y:Bw w n:=by rw[<-l];exact Ai
 have r:w.heap.size<n.heap.size:=by rw[<-l];simp
 have D:n.cell? ⟨w.heap.size,1,none⟩=some (Vi d):=by rw[<-l];simp[go_sem]
 have E:n.cell? ⟨w.heap.size,2,none⟩=some (Vi a):=by rw[<-l];simp[go_sem]
 have F:n.cell? ⟨w.heap.size,3,none⟩=some (Vi b):=by rw[<-l];simp[go_sem]
 clear l;refine(TS j f n ((y.cell (p:=Va j 1) x).trans A) ((y.cell (p:=Va j 3) x).trans B)).mono ?_;rintro e wa⟨rfl,h⟩;have k:=y.trans (h.mono (Nat.le_of_lt r));have k1:=(h.cell (p:=⟨w.heap.size,1,none⟩) r).trans D;have k2:=(h.cell (p:=⟨w.heap.size,2,none⟩) r).trans E;have k3:=(h.cell (p:=⟨w.heap.size,3,none⟩) r).trans F;have U:=(k.cell (p:=Va j 0) x).trans z;have X:=(k.cell (p:=Va c a) m).trans J;have Y:=(k.cell (p:=Va c b) m).trans K;have Z:=(k.cell (p:=Va c d) m).trans L;have ef:=(k.frozen (p:=Va c d) m).trans o;clear z J K L o A B M D E F h;cases f with
 |true=>
  go_wp2_with fail;go_region;all_goals(go_wp2;go_end0;exact⟨rfl,(Fy k m _).drew⟩)
 |false=>
  go_wp2_with fail;go_region;all_goals(go_wp2;go_end0;exact⟨rfl,(Fy k m _).drew⟩)
theorem oZ(c j:Nat)(o d a b h n:Int)(f:Bool)(w:World)(m:c<w.heap.size)(hF:j<w.heap.size)
 (q:w.cell? (Va c 1)=some (.bool f))(r:w.cell? (Va c 3)=some (.bool false))(u:w.cell? (Va j 0)=some (.func (.func 129) #[] #[])):
 Calls Tryz.prog 170 #[Vq c,.agg #[Vi o,Vi d,Vi a,Vi b,Vi h,Vi n],Vq j] w fun e s=>e=.panicked [{v:=.iface 163 (.agg #[]),recovered:=false}]/\Below w.heap.size w s:=by
 go_enter Tryz.func170,Tryz.ntmps170;go_wp2_with fail;have l:Bw w (w.alloc (.cells #[Vi o,Vi d,Vi a,Vi b,Vi h,Vi n] 109)):=Ai;refine(Xh c f _ (by simp;omega) ((l.cell (p:=Va c 1) m).trans q) ((l.cell (p:=Va c 3) m).trans r)).mono ?_;rintro e x⟨rfl,k⟩;exact⟨rfl,rfl,l.trans (k.mono AX)⟩
theorem Zb(j c u d a b s:Nat)(I q C:Int)(R:Nat->Int)(f:Bool)(w:World)(hd:d<8)(ha:a<8)(hb:b<8)(x:j<w.heap.size)(m:c<w.heap.size)(hF:s<w.heap.size)
 (z:w.cell? (Va j 0)=some (Vs c 8 u))(J:w.cell? (Va c a)=some (.int .u64 (R a)))(K:w.cell? (Va c b)=some (.int .u64 (R b)))(L:w.cell? (Va c d)=some (.int .u64 (R d)))(o:w.frozen? (Va c d)=false)
 (A:w.cell? (Va j 2)=some (.bool f))(B:w.cell? (Va j 4)=some (.bool true))(M:w.cell? (Va s 0)=some (.func (.func 130) #[] #[])):
 Calls Tryz.prog 170 #[Vq j,.agg #[Vi I,Vi d,Vi a,Vi b,Vi q,Vi C],Vq s] w fun e S=>e=.returned (.tuple #[])/\Below w.heap.size (w.setCell (Va c d) (.int .u64 (if f then R a else R b))) S:=by
 have Q:(d:Int)<8:=AB;have N:(a:Int)<8:=AB;have O:(b:Int)<8:=AB;go_enter Tryz.func170,Tryz.ntmps170;go_wp2_with fail;generalize l:w.alloc (.cells #[Vi I,Vi d,Vi a,Vi b,Vi q,Vi C] 109)=n;have y:Bw w n:=by rw[<-l];exact Ai
 have r:w.heap.size<n.heap.size:=by rw[<-l];simp
 have D:n.cell? ⟨w.heap.size,1,none⟩=some (Vi d):=by rw[<-l];simp[go_sem]
 have E:n.cell? ⟨w.heap.size,2,none⟩=some (Vi a):=by rw[<-l];simp[go_sem]
 have F:n.cell? ⟨w.heap.size,3,none⟩=some (Vi b):=by rw[<-l];simp[go_sem]
 clear l;refine(MN j f n ((y.cell (p:=Va j 2) x).trans A) ((y.cell (p:=Va j 4) x).trans B)).mono ?_;rintro e wa⟨rfl,h⟩;have k:=y.trans (h.mono (Nat.le_of_lt r));have k1:=(h.cell (p:=⟨w.heap.size,1,none⟩) r).trans D;have k2:=(h.cell (p:=⟨w.heap.size,2,none⟩) r).trans E;have k3:=(h.cell (p:=⟨w.heap.size,3,none⟩) r).trans F;have U:=(k.cell (p:=Va j 0) x).trans z;have X:=(k.cell (p:=Va c a) m).trans J;have Y:=(k.cell (p:=Va c b) m).trans K;have Z:=(k.cell (p:=Va c d) m).trans L;have ef:=(k.frozen (p:=Va c d) m).trans o;clear z J K L o A B M D E F h;cases f with
 |true=>
  go_wp2_with fail;go_region;all_goals(go_wp2;go_end0;exact⟨rfl,(Fy k m _).drew⟩)
 |false=>
  go_wp2_with fail;go_region;all_goals(go_wp2;go_end0;exact⟨rfl,(Fy k m _).drew⟩)
theorem oo(c j:Nat)(o d a b h n:Int)(f:Bool)(w:World)(m:c<w.heap.size)(hF:j<w.heap.size)
 (q:w.cell? (Va c 2)=some (.bool f))(r:w.cell? (Va c 4)=some (.bool false))(u:w.cell? (Va j 0)=some (.func (.func 130) #[] #[])):
 Calls Tryz.prog 170 #[Vq c,.agg #[Vi o,Vi d,Vi a,Vi b,Vi h,Vi n],Vq j] w fun e s=>e=.panicked [{v:=.iface 163 (.agg #[]),recovered:=false}]/\Below w.heap.size w s:=by
 go_enter Tryz.func170,Tryz.ntmps170;go_wp2_with fail;have l:Bw w (w.alloc (.cells #[Vi o,Vi d,Vi a,Vi b,Vi h,Vi n] 109)):=Ai;refine(PI c f _ (by simp;omega) ((l.cell (p:=Va c 2) m).trans q) ((l.cell (p:=Va c 4) m).trans r)).mono ?_;rintro e x⟨rfl,k⟩;exact⟨rfl,rfl,l.trans (k.mono AX)⟩
end Go.Proofs.YtjoppncopoampaaGreatDoor
