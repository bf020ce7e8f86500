import Derived.Test.YtkckomianknjdaaGreatOfCoreF
import Derived.Test.YtkckomianknjdaaGreatLowSpec
import Derived.Test.YtkckomianknjdaaGreatLowChoice
import Derived.Test.YtkckomianknjdaaGreatOfUnitFlat0
set_option maxHeartbeats 32000000
set_option maxRecDepth 20000
namespace Go.Proofs.YtkckomianknjdaaGreat
open Go.RowKit
variable {w:World}
theorem Ub{x:Int}:Le x+1<=2000↔x<2000:=by unfold Le;split<;>omega
theorem NT(b n l:Nat)(L:Nat->SV)(w:World)(O:n<=1048576)(J:BZ w b (n*11) (I5 L)):
 Calls Tryz.prog 17 #[Vs b n l] w fun e w'=>e=.returned (.bool (decide (IZ L n)))/\Below w.heap.size w w':=by
 obtain⟨k,a⟩:=BG (decide (IZ L n));rw[a];have q:=hxy a;have y:=hxy J;clear a J;go_enter Tryz.func17,Tryz.ntmps17;by_cases K:n<=2000
 rotate_left
 ·have X:decide ((2000:Int)<(n:Int))=true:=by simp;omega
  obtain rfl:false=k:=by rw[<-q.out];exact(decide_eq_false (fun h=>K h.1)).symm
  go_wp2;go_ret;exact⟨rfl,Below.refl _ _⟩
 have X:decide ((2000:Int)<(n:Int))=false:=by simp;omega
 go_wp2_with fail;refine(Rm b n l L 0 0 321 O AB AB n 0 n 0 w AB AB BP AB AB y).mono ?_;rintro e r⟨rfl,m⟩;obtain⟨c,C⟩:=BG (Cy L 0 0 321 0 n 0);rw[C];have A:=hxy C;have s:=hxy m;have D:=hxy (y.below m y.lt);have S:=hxy K;clear C m;obtain⟨I,c2⟩:=c;by_cases d:I=0
 rotate_left
 ·have e2:(I==0)=false:=by simp[d]
  obtain rfl:false=k:=by rw[<-q.out];exact(decide_eq_false (fun h=>d (by have:=h.2.1;rw[A.out]at this;exact this))).symm
  clear d;go_wp2;go_ret;exact⟨rfl,s⟩
 subst d;have lw:=s.size;obtain⟨u,M,o,p⟩:∃x,r.alloc (.cells #[] 2)=x/\Bw r x/\At x r.heap.size 0 0 (zF (fun _=>0)):=⟨_,rfl,Ah,AY,fun i hi=>by omega⟩
 have R:=hxy p;have Q:=hxy (D.below o D.lt);have E:=hxy (s.trans (o.mono lw));have U:=hxy M;clear M o p;go_wp2_with fail;rw[U.out];refine(TU b n l L r.heap.size 0 0 (fun _=>0) u O Q R (fun _=>Int.le_refl _) (fun _=>by decide) (fun j Z k4=>by
  have h:=KN (ZN L 0 0 321 _ 0 n 0 BP (by rw[A.out]) j (Nat.zero_le _) Z) k4;omega)).mono ?_
 rintro e w2⟨rfl,N⟩;rw[N];clear N;obtain⟨z,d⟩:=BG (Le (Cg L (fun _=>0) n));rw[d];have zb:0<=z/\z<=2001:=by rw[<-d];exact ZY (Iu (fun _=>Int.le_refl _) n)
 obtain⟨aa,ab⟩:=zb;have F:=hxy d;clear d;by_cases B:z+1<=2000
 ·have Y:decide (z+1<=2000)=true:=by simp[B]
  obtain rfl:true=k:=by rw[<-q.out];exact(decide_eq_true ⟨S,by rw[A.out],Ub.1 (by rw[F.out];exact B)⟩).symm
  go_wp2;go_ret;exact⟨rfl,E⟩
 ·have Y:decide (z+1<=2000)=false:=by simp;omega
  obtain rfl:false=k:=by rw[<-q.out];exact(decide_eq_false (fun h=>B (by rw[<-F.out];exact Ub.2 h.2.2))).symm
  go_wp2;go_ret;exact⟨rfl,E⟩
theorem El.shp{L:Nat->SV}{S:Nat->Prop}:∀(m:Nat){v:Value}{i b:Nat},El L m w S v i b->∃(a:Option Addr)(k c:Nat),v=.slice a k c
 |0,_,_,_,h=>⟨_,_,_,h.2⟩
 |_+1,_,_,_,⟨_,hr,_⟩=>FT hr.1
theorem iq(v:Value)(w:World):(Instr.typeAssert (.iface 128 v) 125 128 true).run Tryz.prog w=.ok (.tuple #[v,.bool true]) w:=Ab
theorem ic(v:Value)(w:World):(Instr.typeAssert (.iface 130 v) 125 128 true).run Tryz.prog w=.ok (.tuple #[.agg #[Vi 0,Vi 0,Vi 0,Vi 0,Vi 0,Vi 0,Vi 0],.bool false]) w:=Ab
theorem jG(v:Value)(w:World):(Instr.typeAssert (.iface 130 v) 125 130 true).run Tryz.prog w=.ok (.tuple #[v,.bool true]) w:=Ab
theorem ig(v:Value)(w:World):(Instr.typeAssert (.iface 133 v) 125 128 true).run Tryz.prog w=.ok (.tuple #[.agg #[Vi 0,Vi 0,Vi 0,Vi 0,Vi 0,Vi 0,Vi 0],.bool false]) w:=Ab
theorem jN(v:Value)(w:World):(Instr.typeAssert (.iface 133 v) 125 130 true).run Tryz.prog w=.ok (.tuple #[.agg #[Vi 0,Vi 0,.slice none 0 0,.slice none 0 0],.bool false]) w:=Ab
theorem jW(v:Value)(w:World):(Instr.typeAssert (.iface 133 v) 125 133 true).run Tryz.prog w=.ok (.tuple #[v,.bool true]) w:=Ab
theorem LP.below{u:World}{lb:Nat}{v:Value}{a:List NV}(h:LP w lb v a)(b:Below w.heap.size w u):LP u lb v a:=
 ⟨(b.cell (p:=Va lb 0) h.lt).trans h.C,DY h.lt b.size,fun i=>(b.frozen (p:=Va lb i) h.lt).trans (h.F i),FB h.O b⟩
theorem Stp.of_below{u:World}{O:Nat}{E:Nat->Prop}(v:Value)(b:Below w.heap.size w u):Stp O E w v u v:=⟨Lx.of_below b,.inl rfl⟩
theorem Uo(R:World)(z:Nat)(L:Nat->SV)(m i r:Nat)(o:Int)(tv:Value)(S:Nat->Prop)(ba:R.heap.size<=z)
 (hr:El L (m+1) R S tv i r)(aZ:i<=r)(bd:r<=2000)(aE:(Cy L 0 0 321 i r o).1=0)
 (ih:∀i' aj d v,i<i'->i'<=aj->aj<=r->(Cy L 0 0 321 i' aj d).1=0->El L m R S v i' aj->Qb R z L i' aj v):Qb R z L i r tv:=by
 intro w v0 j aD hP aM;obtain⟨ns,U,ay,hx⟩:=hr;obtain⟨a3,kt,ct,a0⟩:=FT U.1;subst a0;have ac:=hxy U;have aC:=hxy ay;have HX:Hid _:=hx;have aU:=hxy aE;have IH:Hid _:=ih;have al:=hxy aD;have P0:=hxy hP;obtain⟨J,ah⟩:=BG (Bq L j.length i r);rw[ah]at aM⊢;have aA:=hxy ah;have aw:kt=ns.length:=by
  rcases U.1.2 with⟨e,e2⟩|⟨g,a4,a6,e,_⟩
  ·have:=(Value.slice.inj e).2.1;omega
  ·exact(Value.slice.inj e).2.1
 have a9:kt<=2000:=by rw[aw,ay];exact Nat.le_trans (NC L _ i r BP) AB
 have Q:=hxy aw;clear U ay hx aE ih aD hP ah aw;go_enter Tryz.func29,Tryz.ntmps29;go_wp2;go_loopw [11](fun iv wr=>∃(q p:Nat)(v:Value)(c:List NV),q<=kt/\i<=p/\p<=r/\iv=Vi (q:Int)/\LP wr z v (j++c)/\Stp z (fun _=>False) w v0 wr v/\c++Bq L (j++c).length p r=J/\(Dv L i r).drop q=Dv L p r/\(Cy L 0 0 321 p r o).1=0)(fun iv _=>kt-(intOf iv).toNat)
 case atStart=>exact⟨0,i,v0,[],Nat.zero_le _,BP,aZ,rfl,by rw[List.append_nil];exact P0,Stp.refl _ _ _ _,by rw[List.append_nil];exact aA,AY,aU⟩
 case round=>
  obtain⟨q,p,v,c,hq,a8,bb,rfl,hp,hs,hd,aG,hc⟩:=hrel;have P1:=hxy hp;have S1:=hxy hs;have HD:=hxy hd;have aa:=hxy aG;have HK:=hxy hc;have B1:Hid (Below z R wr):=hs.low al P0 (fun _ _ h=>h);have aH:(j++c).length+(Bq L (j++c).length p r).length<=4000:=by
   have h:=aM;rw[<-hd]at h;simp only[List.length_append]at h⊢;omega
  have ao:=hxy aH;clear hp hs hd aG hc aH;by_cases D:p<r
  rotate_left
  ·have bc:q=kt:=by
    have h:=congrArg List.length aa;rw[List.length_drop,<-aC.out,<-Q.out,Fp D]at h;simp at h;omega
   have aK:¬(q:Int)<(kt:Int):=AB;have av:c=J:=by have:=HD.out;rw[G6 D,List.append_nil]at this;exact this
   subst av;go_wp2;go_end0;exact⟨rfl,v,P1,S1⟩
  have aJ:q<kt:=by
   have h:=congrArg List.length aa;rw[List.length_drop,<-aC.out,<-Q.out,Db D]at h;simp at h;omega
  have aK:(q:Int)<(kt:Int):=AB;obtain⟨gt,a5,aN⟩:=He ac.1 (by rw[<-Q.out];omega);obtain⟨rfl,hz,rfl⟩:=Value.slice.inj aN;clear hz;have aV:Hid (R.ownsRow 0 125 1 (Vs gt ns.length ct) ns.length ns):=(by have:=ac.1;rwa [Q.out]at this:R.ownsRow 0 125 1 (Vs gt ns.length ct) ns.length ns)
  obtain⟨x,az⟩:∃x,ns[q]?=some x:=⟨ns[q]'(by rw[<-Q.out];exact aJ),by simp[<-Q.out,aJ]⟩
  have aI:(Dv L i r)[q]?=some p:=by
   have h:=congrArg (fun l=>l[0]?) aa;simp only[Db D,List.getElem?_drop,Nat.add_zero,List.getElem?_cons_zero]at h;exact h
  have aF:(Dv L i r).drop (q+1)=Dv L (p+1+(L p).thn.toNat+(L p).els.toNat) r:=by
   have h:=congrArg (List.drop 1) aa;rw[List.drop_drop,Db D]at h;simpa[Nat.add_comm]using h
  have a2:gt<z:=by have:=(ac.1.lt gt rfl).2;omega
  have g0:wr.cell? (Va gt q)=some x:=by
   rw[B1.cell (p:=Va gt q) a2,aV.cellAt q (by rw[<-Q.out];omega)];exact az
  obtain⟨aS,ak,aP,aQ,aR⟩:=GU HK D;have ad:=hxy aS;have aB:Hid _:=aP;have aT:Hid _:=aQ;have am:Hid _:=aR;have an:Hid _:=aF;have ab:=hxy ak;have au:=HX.out q x p az aI;clear aS aP aQ aR aF ak az aI aN aa HK;rcases au with⟨k1,rfl⟩|⟨k2,v1,v2,rfl,r1,r2⟩|⟨k3,v1,rfl,r1⟩|⟨k4,rfl⟩
  ·have K:=hxy k1
   clear k1;have t1:=iq;go_upto_region 6 with fail;clear t1 g0;obtain⟨u1,O,B,s⟩:∃x,wr.alloc (.cells #[Vi (p:Int),Vi (L p).op,Vi (L p).d,Vi (L p).a,Vi (L p).b,Vi (L p).imm,Vi (L p).h] 128)=x/\Bw wr x/\Cl x wr.heap.size [Vi (p:Int),Vi (L p).op,Vi (L p).d,Vi (L p).a,Vi (L p).b,Vi (L p).imm,Vi (L p).h]:=⟨_,rfl,Ah,Cl.new⟩
   rw[O];have P2:=hxy (P1.below B);have S2:Hid (Stp z (fun _=>False) w v0 u1 v):=S1.trans (Stp.of_below (E:=fun _=>False) v B) (fun _ _ h=>h);have zx:=s.1;have af:u1.cell? ⟨wr.heap.size,1,none⟩=some (Vi (L p).op):=s.2 1 AY;have ag:u1.cell? ⟨wr.heap.size,2,none⟩=some (Vi (L p).d):=s.2 2 AY;have ar:u1.cell? ⟨wr.heap.size,3,none⟩=some (Vi (L p).a):=s.2 3 AY;have aW:u1.cell? ⟨wr.heap.size,4,none⟩=some (Vi (L p).b):=s.2 4 AY;have aX:u1.cell? ⟨wr.heap.size,5,none⟩=some (Vi (L p).imm):=s.2 5 AY;have aY:u1.cell? ⟨wr.heap.size,6,none⟩=some (Vi (L p).h):=s.2 6 AY;clear O B s P1 S1;go_wp2_with fail;obtain⟨y2,y3⟩:=Ph ad.out (.inl K);have HE:p+1+(L p).thn.toNat+(L p).els.toNat=p+1:=by rw[y2,y3];rfl
   have k:=QL (at':=(j++c).length) D ab K;rw[HE]at k;have C:=ao.out;rw[k,List.length_cons]at C;refine(QK z v (j++c) (Hg (L p)) u1 P2 AB).mono ?_;rintro e u2⟨rfl,v2,M,N⟩;have P3:Hid (LP u2 z v2 (j++(c++[Hg (L p)]))):=(by rw[<-List.append_assoc];exact M:LP u2 z v2 (j++(c++[Hg (L p)])))
   have S3:Hid (Stp z (fun _=>False) w v0 u2 v2):=S2.trans N (fun _ _ h=>h);have Y:Hid (c++[Hg (L p)]++Bq L (j++(c++[Hg (L p)])).length (p+1) r=J):=(by
    rw[<-HD.out,k,show(j++(c++[Hg (L p)])).length=(j++c).length+1 by simp;omega];simp:c++[Hg (L p)]++Bq L (j++(c++[Hg (L p)])).length (p+1) r=J)
   have Z:Hid ((Dv L i r).drop (q+1)=Dv L (p+1) r):=(by have h:=an.out;rw[HE]at h;exact h:(Dv L i r).drop (q+1)=Dv L (p+1) r)
   have X:Hid ((Cy L 0 0 321 (p+1) r o).1=0):=(by have h:=am.out;rw[HE]at h;exact h:(Cy L 0 0 321 (p+1) r o).1=0)
   clear M N af ag ar aW aX aY y2 y3 HE k C P2 S2;go_wp2;go_roundw
   case rel=>exact⟨q+1,p+1,v2,c++[Hg (L p)],AB,AB,AB,by go_num,P3,S3,Y,Z,X⟩
   case measure=>simp[intOf];omega
  ·have K:=hxy k2
   clear k2;obtain⟨A,ka,ca,ax⟩:=El.shp m r1;subst ax;obtain⟨ae,kb,cb,a1⟩:=El.shp m r2;subst a1;obtain⟨a,ha⟩:∃x:Nat,(L p).thn.toNat=x:=⟨_,rfl⟩
   obtain⟨b,hb⟩:∃x:Nat,(L p).els.toNat=x:=⟨_,rfl⟩
   have ak:p+1+a+b<=r:=by have:=ab.out;omega
   have u:Hid ((L p).thn.toNat=a/\(L p).els.toNat=b):=⟨ha,hb⟩
   have H1:Hid (Qb R z L (p+1) (p+1+a) (.slice A ka ca)):=IH.out (p+1) (p+1+a) (o+1) _ AB AB AB (by have h:=aB.out;rw[ha]at h;exact h) (by rw[<-ha];exact r1);have H2:Hid (Qb R z L (p+1+a) (p+1+a+b) (.slice ae kb cb)):=IH.out (p+1+a) (p+1+a+b) (o+1) _ AB AB AB (by have h:=aT.out;rw[ha,hb]at h;exact h) (by rw[<-ha,<-hb];exact r2);clear r1 r2 ha hb;have t1:=ic;have t2:=jG;go_upto_region 9 with fail;clear t1 t2 g0;obtain⟨u1,O,B,s⟩:∃x,wr.alloc (.cells #[Vi (p:Int),Vi (L p).cond,.slice A ka ca,.slice ae kb cb] 130)=x/\Bw wr x/\Cl x wr.heap.size [Vi (p:Int),Vi (L p).cond,.slice A ka ca,.slice ae kb cb]:=⟨_,rfl,Ah,Cl.new⟩
   rw[O];have P2:=hxy (P1.below B);have S2:Hid (Stp z (fun _=>False) w v0 u1 v):=S1.trans (Stp.of_below (E:=fun _=>False) v B) (fun _ _ h=>h);have B2:Hid (Below z R u1):=S2.low al P0 (fun _ _ h=>h);have zx:=s.1;have ap:u1.cell? ⟨wr.heap.size,0,none⟩=some (Vi (p:Int)):=s.2 0 AY;have af:u1.cell? ⟨wr.heap.size,1,none⟩=some (Vi (L p).cond):=s.2 1 AY;have ag:u1.cell? ⟨wr.heap.size,2,none⟩=some (.slice A ka ca):=s.2 2 AY;have ar:u1.cell? ⟨wr.heap.size,3,none⟩=some (.slice ae kb cb):=s.2 3 AY;clear O B s P1 S1;go_wp2_with fail;obtain⟨n,ai⟩:=BG (Bq L ((j++c).length+1) (p+1) (p+1+a));obtain⟨I,aO⟩:=BG (Bq L ((j++c).length+2+n.length) (p+1+a) (p+1+a+b));have k:=Mt (at':=(j++c).length) D ab K (x:=n) (y:=I) (by rw[u.1];exact ai) (by rw[u.1,u.2];exact aO);rw[u.1,u.2]at k;have C:=ao.out;rw[k]at C;simp only[List.length_append,List.length_cons]at C;refine(Og R z L p a b (p:Int) (L p).cond A ka ca ae kb cb H1 H2 u1 v (j++c) n I B2 P2 ai aO (by simp only[List.length_append];omega)).mono ?_;rintro e u2⟨rfl,F,M,N⟩;have P3:Hid (LP u2 z F (j++(c++(A7 (Bu (L p).cond) (((j++c).length+2+n.length:Nat):Int)::(n++A7 29 (((j++c).length+2+n.length+I.length:Nat):Int)::I))))):=(by rw[<-List.append_assoc];exact M:LP u2 z F (j++(c++(A7 (Bu (L p).cond) (((j++c).length+2+n.length:Nat):Int)::(n++A7 29 (((j++c).length+2+n.length+I.length:Nat):Int)::I)))))
   have S3:Hid (Stp z (fun _=>False) w v0 u2 F):=S2.trans N (fun _ _ h=>h);have Y:Hid (c++(A7 (Bu (L p).cond) (((j++c).length+2+n.length:Nat):Int)::(n++A7 29 (((j++c).length+2+n.length+I.length:Nat):Int)::I))++Bq L (j++(c++(A7 (Bu (L p).cond) (((j++c).length+2+n.length:Nat):Int)::(n++A7 29 (((j++c).length+2+n.length+I.length:Nat):Int)::I)))).length (p+1+a+b) r=J):=(by
    rw[<-HD.out,k,show(j++(c++(A7 (Bu (L p).cond) (((j++c).length+2+n.length:Nat):Int)::(n++A7 29 (((j++c).length+2+n.length+I.length:Nat):Int)::I)))).length=(j++c).length+2+n.length+I.length by simp;omega];simp:c++(A7 (Bu (L p).cond) (((j++c).length+2+n.length:Nat):Int)::(n++A7 29 (((j++c).length+2+n.length+I.length:Nat):Int)::I))++Bq L (j++(c++(A7 (Bu (L p).cond) (((j++c).length+2+n.length:Nat):Int)::(n++A7 29 (((j++c).length+2+n.length+I.length:Nat):Int)::I)))).length (p+1+a+b) r=J)
   have Z:Hid ((Dv L i r).drop (q+1)=Dv L (p+1+a+b) r):=(by have h:=an.out;rw[u.1,u.2]at h;exact h:(Dv L i r).drop (q+1)=Dv L (p+1+a+b) r)
   have X:Hid ((Cy L 0 0 321 (p+1+a+b) r o).1=0):=(by have h:=am.out;rw[u.1,u.2]at h;exact h:(Cy L 0 0 321 (p+1+a+b) r o).1=0)
   clear M N ap af ag ar k C P2 S2;go_wp2;go_roundw
   case rel=>exact⟨q+1,p+1+a+b,F,c++(A7 (Bu (L p).cond) (((j++c).length+2+n.length:Nat):Int)::(n++A7 29 (((j++c).length+2+n.length+I.length:Nat):Int)::I)),AB,AB,AB,by go_num,P3,S3,Y,Z,X⟩
   case measure=>simp[intOf];omega
  ·have K:=hxy k3
   clear k3;obtain⟨A,ka,ca,ax⟩:=El.shp m r1;subst ax;obtain⟨a,ha⟩:∃x:Nat,(L p).thn.toNat=x:=⟨_,rfl⟩
   obtain⟨b,hb⟩:∃x:Nat,(L p).els.toNat=x:=⟨_,rfl⟩
   have ak:p+1+a+b<=r:=by have:=ab.out;omega
   have u:Hid ((L p).thn.toNat=a/\(L p).els.toNat=b):=⟨ha,hb⟩
   have H1:Hid (Qb R z L (p+1) (p+1+a) (.slice A ka ca)):=IH.out (p+1) (p+1+a) (o+1) _ AB AB AB (by have h:=aB.out;rw[ha]at h;exact h) (by rw[<-ha];exact r1);have a7:b=0:=by have:=(Nc ad).2 K.out;omega
   clear r1 ha hb;have t1:=ig;have t2:=jN;have t3:=jW;go_upto_region 12 with fail;clear t1 t2 t3 g0;obtain⟨u1,O,B,s⟩:∃x,wr.alloc (.cells #[Vi (p:Int),Vi (L p).cond,.slice A ka ca] 133)=x/\Bw wr x/\Cl x wr.heap.size [Vi (p:Int),Vi (L p).cond,.slice A ka ca]:=⟨_,rfl,Ah,Cl.new⟩
   rw[O];have P2:=hxy (P1.below B);have S2:Hid (Stp z (fun _=>False) w v0 u1 v):=S1.trans (Stp.of_below (E:=fun _=>False) v B) (fun _ _ h=>h);have B2:Hid (Below z R u1):=S2.low al P0 (fun _ _ h=>h);have zx:=s.1;have ap:u1.cell? ⟨wr.heap.size,0,none⟩=some (Vi (p:Int)):=s.2 0 AY;have af:u1.cell? ⟨wr.heap.size,1,none⟩=some (Vi (L p).cond):=s.2 1 AY;have ag:u1.cell? ⟨wr.heap.size,2,none⟩=some (.slice A ka ca):=s.2 2 AY;clear O B s P1 S1;go_wp2_with fail;obtain⟨n,ai⟩:=BG (Bq L ((j++c).length+1) (p+1) (p+1+a));have k:=Ms (at':=(j++c).length) D ab K (x:=n) (by rw[u.1];exact ai);rw[u.1,u.2]at k;have C:=ao.out;rw[k]at C;simp only[List.length_append,List.length_cons]at C;refine(SN R z L p a (p:Int) (L p).cond A ka ca H1 u1 v (j++c) n B2 P2 ai (by simp only[List.length_append];omega)).mono ?_;rintro e u2⟨rfl,F,M,N⟩;have P3:Hid (LP u2 z F (j++(c++(A7 (Bu (L p).cond) (((j++c).length+2+n.length:Nat):Int)::(n++[A7 29 ((j++c).length:Int)]))))):=(by rw[<-List.append_assoc];exact M:LP u2 z F (j++(c++(A7 (Bu (L p).cond) (((j++c).length+2+n.length:Nat):Int)::(n++[A7 29 ((j++c).length:Int)])))))
   have S3:Hid (Stp z (fun _=>False) w v0 u2 F):=S2.trans N (fun _ _ h=>h);have Y:Hid (c++(A7 (Bu (L p).cond) (((j++c).length+2+n.length:Nat):Int)::(n++[A7 29 ((j++c).length:Int)]))++Bq L (j++(c++(A7 (Bu (L p).cond) (((j++c).length+2+n.length:Nat):Int)::(n++[A7 29 ((j++c).length:Int)])))).length (p+1+a+b) r=J):=(by
    rw[<-HD.out,k,show(j++(c++(A7 (Bu (L p).cond) (((j++c).length+2+n.length:Nat):Int)::(n++[A7 29 ((j++c).length:Int)])))).length=(j++c).length+2+n.length by simp;omega];simp:c++(A7 (Bu (L p).cond) (((j++c).length+2+n.length:Nat):Int)::(n++[A7 29 ((j++c).length:Int)]))++Bq L (j++(c++(A7 (Bu (L p).cond) (((j++c).length+2+n.length:Nat):Int)::(n++[A7 29 ((j++c).length:Int)])))).length (p+1+a+b) r=J)
   have Z:Hid ((Dv L i r).drop (q+1)=Dv L (p+1+a+b) r):=(by have h:=an.out;rw[u.1,u.2]at h;exact h:(Dv L i r).drop (q+1)=Dv L (p+1+a+b) r)
   have X:Hid ((Cy L 0 0 321 (p+1+a+b) r o).1=0):=(by have h:=am.out;rw[u.1,u.2]at h;exact h:(Cy L 0 0 321 (p+1+a+b) r o).1=0)
   clear M N ap af ag k C P2 S2;go_wp2;go_roundw
   case rel=>exact⟨q+1,p+1+a+b,F,c++(A7 (Bu (L p).cond) (((j++c).length+2+n.length:Nat):Int)::(n++[A7 29 ((j++c).length:Int)])),AB,AB,AB,by go_num,P3,S3,Y,Z,X⟩
   case measure=>simp[intOf];omega
  ·obtain⟨x0,x1⟩:=KN ad k4
   omega
theorem Wq(r:World)(s:Nat)(L:Nat->SV)(S:Nat->Prop)(n:r.heap.size<=s):∀(m i c:Nat)(a:Int)(q:Value),El L m r S q i c->i<=c->c<=2000->(Cy L 0 0 321 i c a).1=0->Qb r s L i c q:=by
 intro m;induction m with
 |zero=>
  intro i c a q u j l e;obtain⟨y,rfl⟩:=u;obtain rfl:i=c:=AB;exact Uo r s L 0 i i a (.slice none 0 0) S n ⟨[],⟨World.ownsRow_nil _ _ _ _,fun b h=>by cases h⟩,by rw[Fp AB];rfl,fun k x p h=>by simp at h⟩ j l e (fun A o d v y z B=>by omega)
 |succ m E=>
  intro i c a q u j l e;exact Uo r s L m i c a q S n u j l e (fun A o d v y z B C D=>E A o d v D z AB C)
def jE(L:Nat->SV)(n:Nat)(w:World)(e:Ending)(w':World):Prop:=∃(ao:Option Addr)(k c:Nat),e=.returned (.tuple #[.slice ao k c,.bool (decide (IZ L n))])/\Below w.heap.size w w'/\(IZ L n->El L (n+1) w' (fun q=>w.heap.size<=q) (.slice ao k c) 0 n)
theorem LY(b n j:Nat)(L:Nat->SV)(w:World)(ln:n<=1048576)(Z:BZ w b (n*11) (I5 L)):
 Calls Tryz.prog 24 #[Vs b n j] w fun e w'=>∃(X:Option Addr)(k c:Nat),e=.returned (.tuple #[.slice X k c,.bool (decide (IZ L n))])/\Below w.heap.size w w'/\(IZ L n->El L (n+1) w' (fun q=>w.heap.size<=q) (.slice X k c) 0 n):=by
 obtain⟨l,m⟩:=BG (decide (IZ L n));rw[m];have B:=hxy m;have HA:=hxy Z;have lb:=Z.lt;go_enter Tryz.func24,Tryz.ntmps24;by_cases E:n<=2000
 rotate_left
 ·have e1:decide ((2000:Int)<(n:Int))=true:=by simp;omega
  obtain rfl:false=l:=by rw[<-B.out];exact(decide_eq_false (fun h=>E h.1)).symm
  have I:=hxy E;go_wp2;refine bodyPost_ret (v:=.tuple #[.slice none 0 0,.bool false]) (by simp[results,Tryz.results24,go_sem]) rfl ⟨none,0,0,rfl,Below.refl _ _,fun h=>absurd h.1 I⟩
 have e1:decide ((2000:Int)<(n:Int))=false:=by simp;omega
 have I:=hxy E;go_wp2_with fail;obtain⟨u2,N,p,y⟩:∃x,w.alloc (.cells #[Vs b n j,Vi 0,Vi 0,Vi 320,Vi 0,Vi 0] 120)=x/\Bw w x/\JG x w.heap.size b n j 0 0 320 0 0:=⟨_,rfl,Ah,Cl.new,fun i=>by simp[go_sem]⟩
 rw[N];have J:=Qm L w.heap.size b n j 0 0 320 AB ln n 0 n 0 AB (Nat.zero_le _) BP AB AB u2 (HA.below p lb) y;rw[show(n:Int)-((0:Nat):Int)=(n:Int)by omega,show(320:Int)+1=321 from rfl]at J;obtain⟨c,u⟩:=BG (Cy L 0 0 321 0 n 0);rw[u]at J;have A:=hxy u;refine J.mono ?_;rintro e u3⟨d,F,D,rfl,a,M,K⟩;have z2:=y.C.1;have z3:=a.size;have O:Hid (Bw w u3):=p.trans ⟨a.os,a.tape,a.output,a.size,fun k hk=>a.block k AB AB⟩;have U:=hxy M;have S:Hid (c.1=0->El L (n+1) u3 (fun q=>w.heap.size<=q) (.slice d F D) 0 n):=fun h=>(K h).kept (fun q hq=>by omega) (fun _ _ _=>rfl)
 have q4:u3.cell? ⟨w.heap.size,4,none⟩=some (Vi c.1):=U.C.2 4 AY;have ql:=U.C.1;by_cases z:c.1=0
 rotate_left
 ·have ez:(c.1 !=0)=true:=by simp[z]
  obtain rfl:false=l:=by rw[<-B.out];exact(decide_eq_false (fun h=>z (by have:=h.2.1;rw[A.out]at this;exact this))).symm
  have o:Hid (¬IZ L n):=fun h=>z (by have:=h.2.1;rw[A.out]at this;exact this)
  go_wp2;refine bodyPost_ret (v:=.tuple #[.slice none 0 0,.bool false]) (by simp[results,Tryz.results24,go_sem]) rfl ⟨none,0,0,rfl,O,fun h=>absurd h o⟩
 have ez:(c.1 !=0)=false:=by simp[z]
 have o:=hxy z;go_wp2_with fail;refine(Mk L (fun _=>0) u3 (fun _=>Int.le_refl _) (fun _=>by decide) 0 321 (n+1) 0 n 0 (.slice d F D) _ u3 Al (S o) (Nat.zero_le _) E (by rw[A.out];exact o)).mono ?_;rintro e u4⟨rfl,r⟩;obtain⟨s,hs⟩:=BG (Cg L (fun _=>0) n);rw[hs,show Cg L (fun _=>0) 0=0 from rfl,Int.sub_zero];have HS:=hxy hs;have Q:Hid (Bw w u4):=O.trans (r.mono AB);have R4:=hxy ((S o).below r);by_cases Y:s<2000
 ·have e3:decide (2000<=s)=false:=by simp;omega
  obtain rfl:true=l:=by rw[<-B.out];exact(decide_eq_true ⟨I,by rw[A.out];exact o,by rw[HS.out];exact Y⟩).symm
  go_wp2;refine bodyPost_ret (v:=.tuple #[.slice d F D,.bool true]) (by simp[results,Tryz.results24,go_sem]) rfl ⟨d,F,D,rfl,Q,fun _=>R4.out⟩
 ·have e3:decide (2000<=s)=true:=by simp;omega
  have R:Hid (¬IZ L n):=fun h=>Y (by have:=h.2.2;rw[HS.out]at this;exact this)
  obtain rfl:false=l:=by rw[<-B.out];exact(decide_eq_false R).symm
  go_wp2;refine bodyPost_ret (v:=.tuple #[.slice none 0 0,.bool false]) (by simp[results,Tryz.results24,go_sem]) rfl ⟨none,0,0,rfl,Q,fun h=>absurd h R⟩
theorem Pe(R:Value)(n:Nat)(L:Nat->SV)(w:World)(hT:Calls Tryz.prog 24 #[R] w (jE L n w)):
 Calls Tryz.prog 8 #[R] w fun e p=>∃v,e=.returned v/\p.ownsRow w.heap.size 85 6 v (FJ L n).length (ci (FJ L n))/\Below w.heap.size w p:=by
 obtain⟨d,j⟩:=BG (FJ L n);rw[j];have M:=hxy j;go_enter Tryz.func8,Tryz.ntmps8;go_wp2_with fail;refine hT.mono ?_;rintro e b⟨ao,k,c,rfl,m,B⟩;have J:=hxy m;have R1:=hxy B;have I:=m.size;by_cases q:IZ L n
 rotate_left
 ·rw[decide_eq_false q]
  obtain rfl:[]=d:=by rw[<-M.out,FJ,if_neg q]
  go_wp2;go_ret;exact⟨_,rfl,World.ownsRow_lit b #[] 0 I (by unfold maxLen;omega) rfl,J.alloc I _⟩
 rw[decide_eq_true q];have r:=hxy q;go_wp2_with fail;obtain⟨u,U,y,o⟩:∃x,b.alloc (.cells #[.slice none 0 0] 81)=x/\Bw b x/\Cl x b.heap.size [.slice none 0 0]:=⟨_,rfl,Ah,Cl.new⟩
 have Q:Hid (LP u b.heap.size (.slice none 0 0) []):=⟨o.2 0 AY,o.1,fun i=>by rw[<-U];simp[go_sem],World.ownsRow_nil _ _ _ _⟩
 rw[U];have K:=hxy y;obtain⟨r1,r2,r3⟩:=r.out;have S:((Bq L 0 0 n).length:Int)<=2000:=by
  have h:=RU (L:=L) (Z:=fun _=>0) (fun _=>Int.le_refl _) _ 0 0 n BP (Nat.zero_le _);rw[show Cg L (fun _=>0) 0=0 from rfl]at h;omega
 have z:=Wq b b.heap.size L _ BP (n+1) 0 n 0 (.slice ao k c) (R1 r) (Nat.zero_le _) r1 r2 u (.slice none 0 0) [] K Q (by show 0+(Bq L 0 0 n).length<=4000;omega);rw[List.nil_append]at z;change Calls _ _ _ _ (fun e p=>e=.returned (.tuple #[])/\∃X,LP p b.heap.size X (Bq L 0 0 n)/\Stp b.heap.size (fun _=>False) u (.slice none 0 0) p X)at z;refine z.mono ?_;rintro e u2⟨rfl,v2,A,D⟩;have N:=hxy A;have Y:Hid (Bw b u2):=D.low K Q (fun _ _ h=>h);go_wp2_with fail;refine(QK b.heap.size v2 (Bq L 0 0 n) (A7 34 0) u2 N AB).mono ?_;rintro e u3⟨rfl,v3,a,E⟩;have l:Bq L 0 0 n++[A7 34 0]=d:=by rw[<-M.out,FJ,if_pos r.out]
 rw[l]at a;obtain⟨s,k3,c3,F⟩:=FT a.O;subst F;have c0:=a.C;have l3:=a.lt;have O3:Hid (u3.ownsRow w.heap.size 85 6 (.slice s k3 c3) d.length (ci d)):=a.O.mono AB;have B3:Hid (Bw w u3):=J.trans ((E.low Y N (fun _ _ h=>h)).mono I);go_wp2;go_ret;exact⟨_,rfl,O3,B3⟩
theorem OW(b n a:Nat)(L:Nat->SV)(w:World)(h:n<=1048576)(d:BZ w b (n*11) (I5 L)):
 Calls Tryz.prog 8 #[Vs b n a] w fun e c=>∃v,e=.returned v/\c.ownsRow w.heap.size 85 6 v (FJ L n).length (ci (FJ L n))/\Below w.heap.size w c:=Pe _ n L w (LY b n a L w h d)
end Go.Proofs.YtkckomianknjdaaGreat
