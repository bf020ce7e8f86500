import Derived.Test.YtkckomianknjdaaGreatOfCoreF
import Derived.Test.YtkckomianknjdaaGreatOfCoreCatch
set_option maxHeartbeats 800000
namespace Go.Proofs.YtkckomianknjdaaGreat
open Go.RowKit
theorem ownsRow_below{w j:World}{l e s n:Nat}{v:Value}{d:List Value}(h:w.ownsRow l e s v n d)(m:Below w.heap.size w j):j.ownsRow l e s v n d:=by
 refine⟨h.1,?_⟩;rcases h.2 with k|⟨g,a,b,q,o,c,r⟩
 ·exact .inl k
 ·refine .inr ⟨g,a,b,q,o,?_,r⟩
  have:g<w.heap.size:=by
   by_cases p:g<w.heap.size
   ·exact p
   ·rw[Array.getElem?_eq_none AB]at c;cases c
  rw[m.block g this];exact c
theorem grownBy_below{w j K:World}{A:Option Nat}(a:Below w.heap.size w j)(h:j.grownBy K A):w.grownBy K A:=
 ⟨h.os.trans a.os,h.tape.trans a.tape,h.output.trans a.output,Nat.le_trans a.size h.size,fun k c b=>(h.block k (DY c a.size) b).trans (a.block k c)⟩
theorem Ow(j c z A n:Nat)(op d a b s hh nx:Int)(f I:Bool)(C:Value)(Q:List Value)(w:World)(hn:n<=1048576)(Z:j<=w.heap.size)(B:c<w.heap.size)(hF:z<w.heap.size)(hW:A<w.heap.size)(m:some c≠C.ownBlock)
 (c8:w.cell? (Va c 8)=some C)(c9:w.cell? (Va c 9)=some (Vi nx))(hf:∀i,w.frozen? (Va c i)=false)(y:w.ownsRow j 109 2 C n Q)
 (h1:w.cell? (Va c 1)=some (.bool f))(h3:w.cell? (Va c 3)=some (.bool true))(cF:w.cell? (Va z 0)=some (.func (.func 104) #[] #[]))(cW:w.cell? (Va A 0)=some (.bool I)):
 Calls Tryz.prog 136 #[Vq c,.agg #[Vi op,Vi d,Vi a,Vi b,Vi s,Vi hh],Vq z,Vq A] w fun e F=>∃u o,e=.returned (.tuple #[])/\
  o.ownsRow j 109 2 u (n+1) (Q++[Vi 2,.int .u64 (if f==I then 1 else 0)])/\w.grownBy o C.ownBlock/\F=if f==I then(o.setCell (Va c 8) u).setCell (Va c 9) (Vi s)else o.setCell (Va c 8) u:=by
 have R:=hxy y;have HF:=hxy hf;clear y hf;go_enter Tryz.func136,Tryz.ntmps136;go_wp2_with fail;generalize N:w.alloc (.cells #[Vi op,Vi d,Vi a,Vi b,Vi s,Vi hh] 85)=k;have J:Bw w k:=by rw[<-N];exact Ah
 have xy:w.heap.size<k.heap.size:=by rw[<-N];simp
 have j4:k.cell? ⟨w.heap.size,4,none⟩=some (Vi s):=by rw[<-N];simp[go_sem]
 have zC:c<k.heap.size:=AB;have zF:z<k.heap.size:=AB;have zW:A<k.heap.size:=AB;have L:k.drew.cell? (Va c 1)=some (.bool f):=(J.cell (p:=Va c 1) B).trans h1;have e3:k.drew.cell? (Va c 3)=some (.bool true):=(J.cell (p:=Va c 3) B).trans h3;have R0:Cb k z 0 (.func (.func 104) #[] #[]):=fun F h=>(h.cell (p:=Va z 0) zF).trans ((J.cell (p:=Va z 0) hF).trans cF)
 have R1:Cb k A 0 (.bool I):=fun F h=>(h.cell (p:=Va A 0) zW).trans ((J.cell (p:=Va A 0) hW).trans cW)
 clear N h1 h3 cF cW;refine wp_region_held_drew (S:=fun F=>Bw k F) Ab (Al.drew) (fun hHeld=>?_);refine lM [0,1,3] ?_;refine wpAnyH_ready (rs:=[2]) Ab AY ?_;refine AllReadyH.cons rfl (fun K hK=>?_) AllReadyH.nil;go_simp;refine(Sl c f k.drew L e3).mono ?_;rintro e wa⟨rfl,l⟩;go_wp2_with fail;refine hK.out _ _ (Al.drew.trans l) (fun O=>?_);clear hK K;refine Ao 4 ?_;refine wpAnyH_done Ab ?_ _;have x:Bw w wa:=J.trans ((Al.drew.trans l).mono (Nat.le_of_lt xy));have xz:w.heap.size<wa.heap.size:=DY xy l.size;have k4:=(l.cell (p:=⟨w.heap.size,4,none⟩) xy).trans j4;have D:=(x.cell (p:=Va c 8) B).trans c8;have k9:=(x.cell (p:=Va c 9) B).trans c9;have M:=(x.frozen (p:=Va c 8) B).trans (HF 8);have Y:=(x.frozen (p:=Va c 9) B).trans (HF 9);clear L e3 R0 R1 c8 c9 j4 l;cases hq:(f==I)with
 |true=>
  go_wp2_with fail;refine(IJ j c n C Q 2 1 _ hn AB AB m D M (ownsRow_below R x)).mono ?_;rintro e w2⟨u,o,rfl,E,q,r⟩;have hs:some w.heap.size≠C.ownBlock:=fun L=>by
   have:=(R.lt _ L.symm).2;omega
  have U:Hid _:=E;have X:=grownBy_below x q;have zc:c<wa.heap.size:=DY B x.size;have q4:=(World.cell?_of_block (a:=⟨w.heap.size,4,none⟩) (q.block w.heap.size xz hs)).trans k4;have q9:=(World.cell?_of_block (a:=Va c 9) (q.block c zc m)).trans k9;have t9:=(World.frozen?_of_block (a:=Va c 9) (q.block c zc m)).trans Y;have q8:=(World.cell?_of_block (a:=Va c 8) (q.block c zc m)).trans D;have xn:c≠w.heap.size:=AB;have r4:=(World.cell?_setCell_far o ⟨c,8,none⟩ ⟨w.heap.size,4,none⟩ u xn).trans q4;have aa:=(World.frozen?_setCell o ⟨c,8,none⟩ ⟨c,9,none⟩ u).trans t9;clear E q k4 D k9 M Y;subst r;go_wp2;go_end0;exact⟨rfl,u,o,U,X,rfl⟩
 |false=>
  go_wp2_with fail;refine(IJ j c n C Q 2 0 _ hn AB AB m D M (ownsRow_below R x)).mono ?_;rintro e w2⟨u,o,rfl,E,q,r⟩;have U:Hid _:=E;have X:=grownBy_below x q;have HZ:Hid _:=r;clear E q r k4 D k9 M Y;go_wp2;all_goals go_end0
  all_goals exact⟨rfl,u,o,U,X,HZ⟩
theorem Oj(j c z A n:Nat)(op d a b s hh nx:Int)(f I:Bool)(C:Value)(Q:List Value)(w:World)(hn:n<=1048576)(Z:j<=w.heap.size)(B:c<w.heap.size)(hF:z<w.heap.size)(hW:A<w.heap.size)(m:some c≠C.ownBlock)
 (c8:w.cell? (Va c 8)=some C)(c9:w.cell? (Va c 9)=some (Vi nx))(hf:∀i,w.frozen? (Va c i)=false)(y:w.ownsRow j 109 2 C n Q)
 (h1:w.cell? (Va c 2)=some (.bool f))(h3:w.cell? (Va c 4)=some (.bool true))(cF:w.cell? (Va z 0)=some (.func (.func 105) #[] #[]))(cW:w.cell? (Va A 0)=some (.bool I)):
 Calls Tryz.prog 136 #[Vq c,.agg #[Vi op,Vi d,Vi a,Vi b,Vi s,Vi hh],Vq z,Vq A] w fun e F=>∃u o,e=.returned (.tuple #[])/\
  o.ownsRow j 109 2 u (n+1) (Q++[Vi 2,.int .u64 (if f==I then 1 else 0)])/\w.grownBy o C.ownBlock/\F=if f==I then(o.setCell (Va c 8) u).setCell (Va c 9) (Vi s)else o.setCell (Va c 8) u:=by
 have R:=hxy y;have HF:=hxy hf;clear y hf;go_enter Tryz.func136,Tryz.ntmps136;go_wp2_with fail;generalize N:w.alloc (.cells #[Vi op,Vi d,Vi a,Vi b,Vi s,Vi hh] 85)=k;have J:Bw w k:=by rw[<-N];exact Ah
 have xy:w.heap.size<k.heap.size:=by rw[<-N];simp
 have j4:k.cell? ⟨w.heap.size,4,none⟩=some (Vi s):=by rw[<-N];simp[go_sem]
 have zC:c<k.heap.size:=AB;have zF:z<k.heap.size:=AB;have zW:A<k.heap.size:=AB;have L:k.drew.cell? (Va c 2)=some (.bool f):=(J.cell (p:=Va c 2) B).trans h1;have e3:k.drew.cell? (Va c 4)=some (.bool true):=(J.cell (p:=Va c 4) B).trans h3;have R0:Cb k z 0 (.func (.func 105) #[] #[]):=fun F h=>(h.cell (p:=Va z 0) zF).trans ((J.cell (p:=Va z 0) hF).trans cF)
 have R1:Cb k A 0 (.bool I):=fun F h=>(h.cell (p:=Va A 0) zW).trans ((J.cell (p:=Va A 0) hW).trans cW)
 clear N h1 h3 cF cW;refine wp_region_held_drew (S:=fun F=>Bw k F) Ab (Al.drew) (fun hHeld=>?_);refine lM [0,1,3] ?_;refine wpAnyH_ready (rs:=[2]) Ab AY ?_;refine AllReadyH.cons rfl (fun K hK=>?_) AllReadyH.nil;go_simp;refine(Kj c f k.drew L e3).mono ?_;rintro e wa⟨rfl,l⟩;go_wp2_with fail;refine hK.out _ _ (Al.drew.trans l) (fun O=>?_);clear hK K;refine Ao 4 ?_;refine wpAnyH_done Ab ?_ _;have x:Bw w wa:=J.trans ((Al.drew.trans l).mono (Nat.le_of_lt xy));have xz:w.heap.size<wa.heap.size:=DY xy l.size;have k4:=(l.cell (p:=⟨w.heap.size,4,none⟩) xy).trans j4;have D:=(x.cell (p:=Va c 8) B).trans c8;have k9:=(x.cell (p:=Va c 9) B).trans c9;have M:=(x.frozen (p:=Va c 8) B).trans (HF 8);have Y:=(x.frozen (p:=Va c 9) B).trans (HF 9);clear L e3 R0 R1 c8 c9 j4 l;cases hq:(f==I)with
 |true=>
  go_wp2_with fail;refine(IJ j c n C Q 2 1 _ hn AB AB m D M (ownsRow_below R x)).mono ?_;rintro e w2⟨u,o,rfl,E,q,r⟩;have hs:some w.heap.size≠C.ownBlock:=fun L=>by
   have:=(R.lt _ L.symm).2;omega
  have U:Hid _:=E;have X:=grownBy_below x q;have zc:c<wa.heap.size:=DY B x.size;have q4:=(World.cell?_of_block (a:=⟨w.heap.size,4,none⟩) (q.block w.heap.size xz hs)).trans k4;have q9:=(World.cell?_of_block (a:=Va c 9) (q.block c zc m)).trans k9;have t9:=(World.frozen?_of_block (a:=Va c 9) (q.block c zc m)).trans Y;have q8:=(World.cell?_of_block (a:=Va c 8) (q.block c zc m)).trans D;have xn:c≠w.heap.size:=AB;have r4:=(World.cell?_setCell_far o ⟨c,8,none⟩ ⟨w.heap.size,4,none⟩ u xn).trans q4;have aa:=(World.frozen?_setCell o ⟨c,8,none⟩ ⟨c,9,none⟩ u).trans t9;clear E q k4 D k9 M Y;subst r;go_wp2;go_end0;exact⟨rfl,u,o,U,X,rfl⟩
 |false=>
  go_wp2_with fail;refine(IJ j c n C Q 2 0 _ hn AB AB m D M (ownsRow_below R x)).mono ?_;rintro e w2⟨u,o,rfl,E,q,r⟩;have U:Hid _:=E;have X:=grownBy_below x q;have HZ:Hid _:=r;clear E q r k4 D k9 M Y;go_wp2;all_goals go_end0
  all_goals exact⟨rfl,u,o,U,X,HZ⟩
theorem Xo(h:Nat)(o d a b j n:Int)(c:Bool)(w:World)(m:h<w.heap.size)(q:w.cell? (Va h 2)=some (.bool c))(r:w.cell? (Va h 4)=some (.bool false)):
 Calls Tryz.prog 99 #[Vq h,.agg #[Vi o,Vi d,Vi a,Vi b,Vi j,Vi n]] w fun e s=>e=.panicked [{v:=.iface 138 (.agg #[]),recovered:=false}]/\Below w.heap.size w s:=by
 go_enter Tryz.func99,Tryz.ntmps99;go_wp2_with fail;have l:Bw w (w.alloc (.cells #[Vi o,Vi d,Vi a,Vi b,Vi j,Vi n] 85)):=Ah;refine(Nk h c _ (by simp;omega) ((l.cell (p:=Va h 2) m).trans q) ((l.cell (p:=Va h 4) m).trans r)).mono ?_;rintro e u⟨rfl,k⟩;exact⟨rfl,rfl,l.trans (k.mono AY)⟩
theorem RQ(j k l:Nat)(x d a b m u:Int)(f y:Bool)(w:World)(r:j<w.heap.size)(hF:k<w.heap.size)(F:l<w.heap.size)
 (D:w.cell? (Va j 1)=some (.bool f))(E:w.cell? (Va j 3)=some (.bool false))(z:w.cell? (Va k 0)=some (.func (.func 104) #[] #[]))(A:w.cell? (Va l 0)=some (.bool y)):
 Calls Tryz.prog 136 #[Vq j,.agg #[Vi x,Vi d,Vi a,Vi b,Vi m,Vi u],Vq k,Vq l] w fun e n=>e=.panicked [{v:=.iface 138 (.agg #[]),recovered:=false}]/\Below w.heap.size w n:=by
 go_enter Tryz.func136,Tryz.ntmps136;go_wp2_with fail;generalize s:w.alloc (.cells #[Vi x,Vi d,Vi a,Vi b,Vi m,Vi u] 85)=c;have o:Bw w c:=by rw[<-s];exact Ah
 have I:w.heap.size<c.heap.size:=by rw[<-s];simp
 have J:j<c.heap.size:=AB;have zF:k<c.heap.size:=AB;have L:l<c.heap.size:=AB;have B:c.drew.cell? (Va j 1)=some (.bool f):=(o.cell (p:=Va j 1) r).trans D;have C:c.drew.cell? (Va j 3)=some (.bool false):=(o.cell (p:=Va j 3) r).trans E;have M:Cb c k 0 (.func (.func 104) #[] #[]):=fun n h=>(h.cell (p:=Va k 0) zF).trans ((o.cell (p:=Va k 0) hF).trans z)
 have N:Cb c l 0 (.bool y):=fun n h=>(h.cell (p:=Va l 0) L).trans ((o.cell (p:=Va l 0) F).trans A)
 refine wp_region_held_drew (S:=fun n=>Bw c n) Ab (Al.drew) (fun hHeld=>?_);refine lM [0,1,3] ?_;refine wpAnyH_ready (rs:=[2]) Ab AY ?_;refine AllReadyH.cons rfl (fun K O=>?_) AllReadyH.nil;go_simp;refine(Us j f c.drew (by exact J) B C).mono ?_;rintro e Q⟨rfl,q⟩;exact⟨rfl,rfl,o.trans ((Al.drew.trans q).mono (Nat.le_of_lt I))⟩
theorem Qw(j k l:Nat)(x d a b m u:Int)(f y:Bool)(w:World)(r:j<w.heap.size)(hF:k<w.heap.size)(F:l<w.heap.size)
 (D:w.cell? (Va j 2)=some (.bool f))(E:w.cell? (Va j 4)=some (.bool false))(z:w.cell? (Va k 0)=some (.func (.func 105) #[] #[]))(A:w.cell? (Va l 0)=some (.bool y)):
 Calls Tryz.prog 136 #[Vq j,.agg #[Vi x,Vi d,Vi a,Vi b,Vi m,Vi u],Vq k,Vq l] w fun e n=>e=.panicked [{v:=.iface 138 (.agg #[]),recovered:=false}]/\Below w.heap.size w n:=by
 go_enter Tryz.func136,Tryz.ntmps136;go_wp2_with fail;generalize s:w.alloc (.cells #[Vi x,Vi d,Vi a,Vi b,Vi m,Vi u] 85)=c;have o:Bw w c:=by rw[<-s];exact Ah
 have I:w.heap.size<c.heap.size:=by rw[<-s];simp
 have J:j<c.heap.size:=AB;have zF:k<c.heap.size:=AB;have L:l<c.heap.size:=AB;have B:c.drew.cell? (Va j 2)=some (.bool f):=(o.cell (p:=Va j 2) r).trans D;have C:c.drew.cell? (Va j 4)=some (.bool false):=(o.cell (p:=Va j 4) r).trans E;have M:Cb c k 0 (.func (.func 105) #[] #[]):=fun n h=>(h.cell (p:=Va k 0) zF).trans ((o.cell (p:=Va k 0) hF).trans z)
 have N:Cb c l 0 (.bool y):=fun n h=>(h.cell (p:=Va l 0) L).trans ((o.cell (p:=Va l 0) F).trans A)
 refine wp_region_held_drew (S:=fun n=>Bw c n) Ab (Al.drew) (fun hHeld=>?_);refine lM [0,1,3] ?_;refine wpAnyH_ready (rs:=[2]) Ab AY ?_;refine AllReadyH.cons rfl (fun K O=>?_) AllReadyH.nil;go_simp;refine(Nk j f c.drew (by exact J) B C).mono ?_;rintro e Q⟨rfl,q⟩;exact⟨rfl,rfl,o.trans ((Al.drew.trans q).mono (Nat.le_of_lt I))⟩
theorem UM(h j o d a b:Nat)(y m x:Int)(R:Nat->Int)(z c C B:Bool)(w:World)(hd:d<8)(ha:a<8)(hb:b<8)(l:h<w.heap.size)(q:j<w.heap.size)(r:h≠j)(pa:0<=R a)(pb:0<=R b)
 (E:w.cell? (Va h 0)=some (Vs j 8 o))(ra:w.cell? (Va j a)=some (.int .u64 (R a)))(rb:w.cell? (Va j b)=some (.int .u64 (R b)))(rd:w.cell? (Va j d)=some (.int .u64 (R d)))(u:w.frozen? (Va j d)=false)(U:w.cell? (Va h 1)=some (.bool z))(X:w.cell? (Va h 2)=some (.bool c))(Y:w.cell? (Va h 3)=some (.bool C))(Z:w.cell? (Va h 4)=some (.bool B))(hf:∀i,w.frozen? (Va h i)=false):
 Calls Tryz.prog 98 #[Vq h,.agg #[Vi y,Vi d,Vi a,Vi b,Vi m,Vi x]] w fun e w'=>e=.returned (.tuple #[])/\Below w.heap.size (flagged (w.setCell (Va j d) (.int .u64 (EP (R a) (R b) 0))) h (EP (R a) (R b) 0) (carry (R a) (R b) 0)) w':=by
 go_enter Tryz.func98,Tryz.ntmps98;go_wp2_with fail;generalize A:w.alloc (.cells #[Vi y,Vi d,Vi a,Vi b,Vi m,Vi x] 85)=n;have k:Bw w n:=by rw[<-A];exact Ah
 have xz:w.heap.size<n.heap.size:=by rw[<-A];simp
 have F:=(k.cell (p:=Va h 0) l).trans E;have I:=(k.cell (p:=Va h 1) l).trans U;have J:=(k.cell (p:=Va h 2) l).trans X;have K:=(k.cell (p:=Va h 3) l).trans Y;have L:=(k.cell (p:=Va h 4) l).trans Z;have M:=(k.cell (p:=Va j a) q).trans ra;have N:=(k.cell (p:=Va j b) q).trans rb;have O:=(k.cell (p:=Va j d) q).trans rd;have Q:=(k.frozen (p:=Va j d) q).trans u;have S:∀i,n.frozen? (Va h i)=false:=fun i=>(k.frozen (p:=Va h i) l).trans (hf i)
 have zC:h<n.heap.size:=AB;have zR:j<n.heap.size:=AB;refine(Il h j o d a b y m x 0 R z c C B n hd ha hb zC zR r AB AB pa pb F M N O Q I J K L S).mono ?_;rintro e w1⟨rfl,s⟩;have D:Hid _:=(Ce l (BI k q (.int .u64 (EP (R a) (R b) 0)))).trans (s.mono (Nat.le_of_lt xz));go_wp2;go_end0;exact⟨rfl,D⟩
theorem Vv(h j q d a b:Nat)(B l A:Int)(R:Nat->Int)(z c E:Bool)(w:World)(hd:d<8)(ha:a<8)(hb:b<8)(m:h<w.heap.size)(u:j<w.heap.size)(y:h≠j)(pa:0<=R a)(pb:0<=R b)
 (c0:w.cell? (Va h 0)=some (Vs j 8 q))(ra:w.cell? (Va j a)=some (.int .u64 (R a)))(rb:w.cell? (Va j b)=some (.int .u64 (R b)))(rd:w.cell? (Va j d)=some (.int .u64 (R d)))(D:w.frozen? (Va j d)=false)(h1:w.cell? (Va h 1)=some (.bool z))(Y:w.cell? (Va h 2)=some (.bool c))(h3:w.cell? (Va h 3)=some (.bool E))(Z:w.cell? (Va h 4)=some (.bool true))(hf:∀i,w.frozen? (Va h i)=false):
 Calls Tryz.prog 99 #[Vq h,.agg #[Vi B,Vi d,Vi a,Vi b,Vi l,Vi A]] w fun e w'=>e=.returned (.tuple #[])/\Below w.heap.size (flagged (w.setCell (Va j d) (.int .u64 (EP (R a) (R b) (if c then 1 else 0)))) h (EP (R a) (R b) (if c then 1 else 0)) (carry (R a) (R b) (if c then 1 else 0))) w':=by
 go_enter Tryz.func99,Tryz.ntmps99;go_wp2_with fail;generalize o:w.alloc (.cells #[Vi B,Vi d,Vi a,Vi b,Vi l,Vi A] 85)=n;have F:Bw w n:=by rw[<-o];exact Ah
 have I:w.heap.size<n.heap.size:=by rw[<-o];simp
 have j0:n.cell? ⟨w.heap.size,0,none⟩=some (Vi B):=by rw[<-o];simp[go_sem]
 have j1:n.cell? ⟨w.heap.size,1,none⟩=some (Vi d):=by rw[<-o];simp[go_sem]
 have j2:n.cell? ⟨w.heap.size,2,none⟩=some (Vi a):=by rw[<-o];simp[go_sem]
 have j3:n.cell? ⟨w.heap.size,3,none⟩=some (Vi b):=by rw[<-o];simp[go_sem]
 have j4:n.cell? ⟨w.heap.size,4,none⟩=some (Vi l):=by rw[<-o];simp[go_sem]
 have j5:n.cell? ⟨w.heap.size,5,none⟩=some (Vi A):=by rw[<-o];simp[go_sem]
 refine(Kj h c n ((F.cell (p:=Va h 2) m).trans Y) ((F.cell (p:=Va h 4) m).trans Z)).mono ?_;rintro e x⟨rfl,r⟩;have k:=F.trans (r.mono (Nat.le_of_lt I));have xz:w.heap.size<x.heap.size:=DY I r.size;have J:=(k.cell (p:=Va h 0) m).trans c0;have K:=(k.cell (p:=Va h 1) m).trans h1;have L:=(k.cell (p:=Va h 2) m).trans Y;have M:=(k.cell (p:=Va h 3) m).trans h3;have N:=(k.cell (p:=Va h 4) m).trans Z;have O:=(k.cell (p:=Va j a) u).trans ra;have Q:=(k.cell (p:=Va j b) u).trans rb;have S:=(k.cell (p:=Va j d) u).trans rd;have U:=(k.frozen (p:=Va j d) u).trans D;have X:∀i,x.frozen? (Va h i)=false:=fun i=>(k.frozen (p:=Va h i) m).trans (hf i)
 have zC:h<x.heap.size:=AB;have zR:j<x.heap.size:=AB;have k0:=JY r I j0 j1 j2 j3 j4 j5;cases c with
 |true=>
  go_wp2_with fail;refine(Il h j q d a b B l A 1 R z true E true x hd ha hb zC zR y AB AB pa pb J O Q S U K L M N X).mono ?_;rintro e w1⟨rfl,s⟩;have C:Hid _:=(Ce m (BI k u (.int .u64 (EP (R a) (R b) 1)))).trans (s.mono (Nat.le_of_lt xz));go_wp2;go_end0;exact⟨rfl,C⟩
 |false=>
  go_wp2_with fail;refine(Il h j q d a b B l A 0 R z false E true x hd ha hb zC zR y AB AB pa pb J O Q S U K L M N X).mono ?_;rintro e w1⟨rfl,s⟩;have C:Hid _:=(Ce m (BI k u (.int .u64 (EP (R a) (R b) 0)))).trans (s.mono (Nat.le_of_lt xz));go_wp2;go_end0;exact⟨rfl,C⟩
theorem Fe{B:Nat}{W X:World}(h:Below B W X){p:Addr}(_hp:p.block<B)(v:Value):Below B (W.setCell p v) (X.setCell p v):=by
 refine⟨h.os,h.tape,h.output,by simpa using h.size,fun k a=>?_⟩;by_cases e:k=p.block
 ·subst e
  have b:=h.block p.block a;unfold World.setCell;simp only[Array.getElem?_modify,b]
 ·rw[heap_setCell_other _ _ _ _ e,heap_setCell_other _ _ _ _ e]
  exact h.block k a
theorem WS(j c u d a b s:Nat)(I q C:Int)(R:Nat->Int)(f:Bool)(w:World)(hd:d<8)(ha:a<8)(hb:b<8)(x:j<w.heap.size)(m:c<w.heap.size)(hF:s<w.heap.size)
 (z:w.cell? (Va j 0)=some (Vs c 8 u))(J:w.cell? (Va c a)=some (.int .u64 (R a)))(K:w.cell? (Va c b)=some (.int .u64 (R b)))(L:w.cell? (Va c d)=some (.int .u64 (R d)))(o:w.frozen? (Va c d)=false)
 (A:w.cell? (Va j 1)=some (.bool f))(B:w.cell? (Va j 3)=some (.bool true))(M:w.cell? (Va s 0)=some (.func (.func 104) #[] #[])):
 Calls Tryz.prog 131 #[Vq j,.agg #[Vi I,Vi d,Vi a,Vi b,Vi q,Vi C],Vq s] w fun e S=>e=.returned (.tuple #[])/\Below w.heap.size (w.setCell (Va c d) (.int .u64 (if f then R a else R b))) S:=by
 have Q:(d:Int)<8:=AB;have N:(a:Int)<8:=AB;have O:(b:Int)<8:=AB;go_enter Tryz.func131,Tryz.ntmps131;go_wp2_with fail;generalize l:w.alloc (.cells #[Vi I,Vi d,Vi a,Vi b,Vi q,Vi C] 85)=n;have y:Bw w n:=by rw[<-l];exact Ah
 have r:w.heap.size<n.heap.size:=by rw[<-l];simp
 have D:n.cell? ⟨w.heap.size,1,none⟩=some (Vi d):=by rw[<-l];simp[go_sem]
 have E:n.cell? ⟨w.heap.size,2,none⟩=some (Vi a):=by rw[<-l];simp[go_sem]
 have F:n.cell? ⟨w.heap.size,3,none⟩=some (Vi b):=by rw[<-l];simp[go_sem]
 clear l;refine(Sl j f n ((y.cell (p:=Va j 1) x).trans A) ((y.cell (p:=Va j 3) x).trans B)).mono ?_;rintro e wa⟨rfl,h⟩;have k:=y.trans (h.mono (Nat.le_of_lt r));have k1:=(h.cell (p:=⟨w.heap.size,1,none⟩) r).trans D;have k2:=(h.cell (p:=⟨w.heap.size,2,none⟩) r).trans E;have k3:=(h.cell (p:=⟨w.heap.size,3,none⟩) r).trans F;have U:=(k.cell (p:=Va j 0) x).trans z;have X:=(k.cell (p:=Va c a) m).trans J;have Y:=(k.cell (p:=Va c b) m).trans K;have Z:=(k.cell (p:=Va c d) m).trans L;have ef:=(k.frozen (p:=Va c d) m).trans o;clear z J K L o A B M D E F h;cases f with
 |true=>
  go_wp2_with fail;go_region;all_goals(go_wp2;go_end0;exact⟨rfl,(Fe k m _).drew⟩)
 |false=>
  go_wp2_with fail;go_region;all_goals(go_wp2;go_end0;exact⟨rfl,(Fe k m _).drew⟩)
theorem Y0(c j:Nat)(o d a b h n:Int)(f:Bool)(w:World)(m:c<w.heap.size)(hF:j<w.heap.size)
 (q:w.cell? (Va c 1)=some (.bool f))(r:w.cell? (Va c 3)=some (.bool false))(u:w.cell? (Va j 0)=some (.func (.func 104) #[] #[])):
 Calls Tryz.prog 131 #[Vq c,.agg #[Vi o,Vi d,Vi a,Vi b,Vi h,Vi n],Vq j] w fun e s=>e=.panicked [{v:=.iface 138 (.agg #[]),recovered:=false}]/\Below w.heap.size w s:=by
 go_enter Tryz.func131,Tryz.ntmps131;go_wp2_with fail;have l:Bw w (w.alloc (.cells #[Vi o,Vi d,Vi a,Vi b,Vi h,Vi n] 85)):=Ah;refine(Us c f _ (by simp;omega) ((l.cell (p:=Va c 1) m).trans q) ((l.cell (p:=Va c 3) m).trans r)).mono ?_;rintro e x⟨rfl,k⟩;exact⟨rfl,rfl,l.trans (k.mono AY)⟩
theorem XP(j c u d a b s:Nat)(I q C:Int)(R:Nat->Int)(f:Bool)(w:World)(hd:d<8)(ha:a<8)(hb:b<8)(x:j<w.heap.size)(m:c<w.heap.size)(hF:s<w.heap.size)
 (z:w.cell? (Va j 0)=some (Vs c 8 u))(J:w.cell? (Va c a)=some (.int .u64 (R a)))(K:w.cell? (Va c b)=some (.int .u64 (R b)))(L:w.cell? (Va c d)=some (.int .u64 (R d)))(o:w.frozen? (Va c d)=false)
 (A:w.cell? (Va j 2)=some (.bool f))(B:w.cell? (Va j 4)=some (.bool true))(M:w.cell? (Va s 0)=some (.func (.func 105) #[] #[])):
 Calls Tryz.prog 131 #[Vq j,.agg #[Vi I,Vi d,Vi a,Vi b,Vi q,Vi C],Vq s] w fun e S=>e=.returned (.tuple #[])/\Below w.heap.size (w.setCell (Va c d) (.int .u64 (if f then R a else R b))) S:=by
 have Q:(d:Int)<8:=AB;have N:(a:Int)<8:=AB;have O:(b:Int)<8:=AB;go_enter Tryz.func131,Tryz.ntmps131;go_wp2_with fail;generalize l:w.alloc (.cells #[Vi I,Vi d,Vi a,Vi b,Vi q,Vi C] 85)=n;have y:Bw w n:=by rw[<-l];exact Ah
 have r:w.heap.size<n.heap.size:=by rw[<-l];simp
 have D:n.cell? ⟨w.heap.size,1,none⟩=some (Vi d):=by rw[<-l];simp[go_sem]
 have E:n.cell? ⟨w.heap.size,2,none⟩=some (Vi a):=by rw[<-l];simp[go_sem]
 have F:n.cell? ⟨w.heap.size,3,none⟩=some (Vi b):=by rw[<-l];simp[go_sem]
 clear l;refine(Kj j f n ((y.cell (p:=Va j 2) x).trans A) ((y.cell (p:=Va j 4) x).trans B)).mono ?_;rintro e wa⟨rfl,h⟩;have k:=y.trans (h.mono (Nat.le_of_lt r));have k1:=(h.cell (p:=⟨w.heap.size,1,none⟩) r).trans D;have k2:=(h.cell (p:=⟨w.heap.size,2,none⟩) r).trans E;have k3:=(h.cell (p:=⟨w.heap.size,3,none⟩) r).trans F;have U:=(k.cell (p:=Va j 0) x).trans z;have X:=(k.cell (p:=Va c a) m).trans J;have Y:=(k.cell (p:=Va c b) m).trans K;have Z:=(k.cell (p:=Va c d) m).trans L;have ef:=(k.frozen (p:=Va c d) m).trans o;clear z J K L o A B M D E F h;cases f with
 |true=>
  go_wp2_with fail;go_region;all_goals(go_wp2;go_end0;exact⟨rfl,(Fe k m _).drew⟩)
 |false=>
  go_wp2_with fail;go_region;all_goals(go_wp2;go_end0;exact⟨rfl,(Fe k m _).drew⟩)
theorem YH(c j:Nat)(o d a b h n:Int)(f:Bool)(w:World)(m:c<w.heap.size)(hF:j<w.heap.size)
 (q:w.cell? (Va c 2)=some (.bool f))(r:w.cell? (Va c 4)=some (.bool false))(u:w.cell? (Va j 0)=some (.func (.func 105) #[] #[])):
 Calls Tryz.prog 131 #[Vq c,.agg #[Vi o,Vi d,Vi a,Vi b,Vi h,Vi n],Vq j] w fun e s=>e=.panicked [{v:=.iface 138 (.agg #[]),recovered:=false}]/\Below w.heap.size w s:=by
 go_enter Tryz.func131,Tryz.ntmps131;go_wp2_with fail;have l:Bw w (w.alloc (.cells #[Vi o,Vi d,Vi a,Vi b,Vi h,Vi n] 85)):=Ah;refine(Nk c f _ (by simp;omega) ((l.cell (p:=Va c 2) m).trans q) ((l.cell (p:=Va c 4) m).trans r)).mono ?_;rintro e x⟨rfl,k⟩;exact⟨rfl,rfl,l.trans (k.mono AY)⟩
end Go.Proofs.YtkckomianknjdaaGreat
