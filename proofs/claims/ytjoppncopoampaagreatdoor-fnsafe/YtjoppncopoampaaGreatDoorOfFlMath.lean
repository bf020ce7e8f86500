import Derived.Test.YtjoppncopoampaaGreatDoorOfCoreReg
import Derived.Test.YtjoppncopoampaaGreatDoorOfCkAs
import Derived.Deep.Cut
import Derived.Deep.DeepCutAuto
import Derived.Maps.Own
import Derived.Test.YtjoppncopoampaaGreatDoorOfRunMath
import Derived.Test.YtjoppncopoampaaGreatDoorOfEvRun
import Derived.Test.YtjoppncopoampaaGreatDoorOfTransAll2
import Derived.Deep.RegionHeld3
import Derived.Test.YtjoppncopoampaaGreatDoorOfFlatAny
set_option maxHeartbeats 8000000
set_option maxRecDepth 20000
namespace Go.Proofs.YtjoppncopoampaaGreatDoor
open Go.RowKit Go.Deep
variable {c z:Int}{b:Nat}{V:Nat->VV}{u:World}
theorem Ms(F:FS)(b:Array Value)(hF:b=fA F)(cond:Int)(m:1<=cond)(n:cond<=4)(w:World):Calls Tryz.prog 149 #[.agg b,Vi cond] w fun e r=>e=.returned (Vi (He F cond))/\Below w.heap.size w r:=by
 obtain⟨q,a⟩:=Au (He F cond);rw[a];have l:=hxy a;have k:=hxy hF;clear a hF;go_enter Tryz.func149,Tryz.ntmps149;go_upto_region 1 with fail;obtain⟨u,h,d,c⟩:∃y,w.alloc (.cells b 71)=y/\BS y w.heap.size F/\Bw w y:=⟨_,rfl,BS.new w k,Ai⟩
 rw[h];have p:=d.zc;have j:=hxy c;clear h d c;have o:cond=1∨cond=2∨cond=3∨cond=4:=AB;clear m n;rcases o with rfl|rfl|rfl|rfl;all_goals go_wp2
 all_goals(go_ret;refine⟨Ae ?_,j⟩;rw[<-l.out];simp_all[He])
theorem KO(a b:Int)(c:0<=a)(d:a<=2)(h:0<=b)(j:b<=2)(w:World):Calls Tryz.prog 195 #[Vi a,Vi b] w fun e m=>e=.returned (Vi (MF a b))/\m=w:=by
 have k:a=0∨a=1∨a=2:=AB;have l:b=0∨b=1∨b=2:=AB;clear c d h j;rcases k with rfl|rfl|rfl<;>rcases l with rfl|rfl|rfl
 all_goals go_enter Tryz.func195,Tryz.ntmps195
 all_goals go_wp2
 all_goals(go_ret;exact⟨Ae Ad,rfl⟩)
theorem Ak.updF{v:World}(p:Ak u b 50 (fF V z c)){B:Nat}(o:B<8)(r:VV)(j:v=(((((u.setCell (Va b (B*6)) (Vi r.k)).setCell (Va b (B*6+1)) (.bool r.s)).setCell (Va b (B*6+2)) (Vi r.m)).setCell (Va b (B*6+3)) (Vi r.h)).setCell (Va b (B*6+4)) (Vi r.lo)).setCell (Va b (B*6+5)) (Vi r.hi)):Ak v b 50 (fF (Df V B r) z c):=by
 subst j;refine(Ak.set1 (Ak.set1 (Ak.set1 (Ak.set1 (Ak.set1 (Ak.set1 p (B*6) AB _) (B*6+1) AB _) (B*6+2) AB _) (B*6+3) AB _) (B*6+4) AB _) (B*6+5) AB _).congr (fun i q=>?_);by_cases a:i<48
 ·have x:=Nat.div_add_mod i 6
  have e:i%6<6:=Nat.mod_lt _ Ad;simp only[fF,if_pos a,vF,Df];generalize i/6=n at *;generalize i%6=l at *;by_cases d:n=B
  ·subst d
   rw[if_pos rfl];match l,e with
   |0,_=>rw[if_neg AB,if_neg AB,if_neg AB,if_neg AB,if_neg AB,if_pos AB];rfl
   |1,_=>rw[if_neg AB,if_neg AB,if_neg AB,if_neg AB,if_pos AB];rfl
   |2,_=>rw[if_neg AB,if_neg AB,if_neg AB,if_pos AB];rfl
   |3,_=>rw[if_neg AB,if_neg AB,if_pos AB];rfl
   |4,_=>rw[if_neg AB,if_pos AB];rfl
   |5,_=>rw[if_pos AB];rfl
  ·rw[if_neg d]
   iterate 6 rw[if_neg AB]
 ·iterate 6 rw[if_neg AB]
  simp only[fF,if_neg a]
theorem Ak.updFz(p:Ak u b 50 (fF V z c))(x:Int):Ak (u.setCell (Va b 48) (Vi x)) b 50 (fF V x c):=by
 refine(Ak.set1 p 48 AB _).congr (fun i a=>?_);by_cases h:i=48
 ·subst h;rfl
 ·rw[if_neg h];unfold fF;simp only[h,if_false]
theorem Ak.updFc(p:Ak u b 50 (fF V z c))(x:Int):Ak (u.setCell (Va b 49) (Vi x)) b 50 (fF V z x):=by
 refine(Ak.set1 p 49 AB _).congr (fun i d=>?_);by_cases h:i=49
 ·subst h;rfl
 ·rw[if_neg h]
  unfold fF;by_cases a:i<48
  ·simp[a]
  ·simp[show i=48 by omega]
theorem VP{U:Nat->VV}(h:∀i,i<8->V i=U i):CX V z c=CX U z c:=by
 unfold CX first
 congr 1
 apply List.map_congr_left;intro i a;unfold fF vF;split
 ·rw[h (i/6) AB]
 ·rfl
def JV(F G:FS)(k i:Nat):VV:=if i<k then Cg (F.V i) (G.V i)else F.V i
theorem jA(F G:FS)(k:Nat):Df (JV F G k) k (Cg (F.V k) (G.V k))=JV F G (k+1):=by
 funext i
 unfold Df JV;by_cases h:i=k
 ·subst h;simp
 ·by_cases a:i<k
  ·simp[h,a,show i<k+1 by omega]
  ·simp[h,a,show¬i<k+1 by omega]
theorem Mq(F G:FS)(k:Nat):JV F G k k=F.V k:=by simp[JV]
structure qx(w u:World)(F G:FS)(V:Nat->VV)(z c:Int):Prop where
 bel:Below w.heap.size w u
 f:Ak u w.heap.size 50 (fF V z c)
 g:BS u (w.heap.size+1) G
 r:BS u (w.heap.size+1+1) DC
theorem qx.below{w v:World}{F G:FS}(p:qx w u F G V z c)(h:Below u.heap.size u v):qx w v F G V z c:=⟨p.bel.trans (h.mono p.bel.size),p.f.below h p.f.lt,p.g.below h,p.r.below h⟩
theorem Cx(h:Ak u b 50 (fF V z c)){k:Nat}(a:k<8):u.cell? (Va b (k*6))=some (Vi (V k).k)/\u.cell? (Va b (k*6+1))=some (.bool (V k).s)/\u.cell? (Va b (k*6+2))=some (Vi (V k).m)/\u.cell? (Va b (k*6+3))=some (Vi (V k).h)/\u.cell? (Va b (k*6+4))=some (Vi (V k).lo)/\u.cell? (Va b (k*6+5))=some (Vi (V k).hi):=
 ⟨(h.cell (i:=k*6+0) AB).trans (congrArg some (FY V z c k 0 a AB)),(h.cell (i:=k*6+1) AB).trans (congrArg some (FY V z c k 1 a AB)),(h.cell (i:=k*6+2) AB).trans (congrArg some (FY V z c k 2 a AB)),(h.cell (i:=k*6+3) AB).trans (congrArg some (FY V z c k 3 a AB)),(h.cell (i:=k*6+4) AB).trans (congrArg some (FY V z c k 4 a AB)),(h.cell (i:=k*6+5) AB).trans (congrArg some (FY V z c k 5 a AB))⟩
theorem KZ(F G:FS)(K M:Array Value)(hF:K=fA F)(hG:M=fA G)(z0:0<=F.z)(z2:F.z<=2)(c0:0<=F.c)(c2:F.c<=2)(y0:0<=G.z)(y2:G.z<=2)(d0:0<=G.c)(d2:G.c<=2)(w:World):Calls Tryz.prog 150 #[.agg K,.agg M] w fun e a=>e=.returned (.agg (fA (jF F G)))/\Below w.heap.size w a:=by
 obtain⟨Y,E⟩:=Au (fA (jF F G));rw[E];have HJ:=hxy E;have HF:=hxy hF;have HG:=hxy hG;have B:Hid ((0<=F.z/\F.z<=2)/\(0<=F.c/\F.c<=2)/\(0<=G.z/\G.z<=2)/\0<=G.c/\G.c<=2):=⟨⟨z0,z2⟩,⟨c0,c2⟩,⟨y0,y2⟩,d0,d2⟩
 clear E hF hG z0 z2 c0 c2 y0 y2 d0 d2;go_enter Tryz.func150,Tryz.ntmps150;go_upto_region 1 with fail;rw[BX];obtain⟨u,hu,pu⟩:∃y,((w.alloc (.cells K 71)).alloc (.cells M 71)).alloc (.cells (CX (fun _=>zV) 0 0) 71)=y/\qx w y F G (JV F G 0) F.z F.c:=by
  have n0:=BS.new w HF;have b0:=(Below.refl w.heap.size w).alloc BQ (.cells K 71);generalize hx:w.alloc (.cells K 71)=x at *;have s0:x.heap.size=w.heap.size+1:=by rw[<-hx];simp
  have n1:=BS.new x HG;have b1:=(Below.refl x.heap.size x).alloc BQ (.cells M 71);generalize hy:x.alloc (.cells M 71)=y at *;have s1:y.heap.size=w.heap.size+1+1:=by rw[<-hy];simp[s0]
  have n2:=BS.new y (FA:=CX (fun _=>zV) 0 0) (F:=DC) rfl;have b2:=(Below.refl y.heap.size y).alloc BQ (.cells (CX (fun _=>zV) 0 0) 71);rw[s0]at n1;rw[s1]at n2;have e:JV F G 0=F.V:=by funext i;simp[JV]
  refine⟨_,rfl,(b0.trans (b1.mono AB)).trans (b2.mono AB),?_,n1.below b2,n2⟩;rw[e];exact(n0.below b1).below b2
 rw[hu];have P0:=hxy pu;clear hu pu HF HG;go_wp2_with fail;go_loopw [6](fun iv wr=>∃k:Nat,iv=Vi k/\k<=8/\qx w wr F G (JV F G k) F.z F.c)(fun iv _=>8-(intOf iv).toNat)
 case atStart=>exact⟨0,rfl,AB,P0⟩
 case round=>
  obtain⟨k,rfl,hk,hp⟩:=hrel;have d:=hxy hp;clear hp P0;by_cases b:k<8
  ·have ac:(k:Int)<8:=AB
   go_upto_region 4 with fail;have t0:∀a,Bw wr a->a.cell? ⟨w.heap.size,k*6,none⟩=some (Vi (F.V k).k):=fun a h=>by have:=(Cx (d.below h).f b).1;rwa [Mq]at this
   have t1:∀a,Bw wr a->a.cell? ⟨w.heap.size,k*6+1,none⟩=some (.bool (F.V k).s):=fun a h=>by have:=(Cx (d.below h).f b).2.1;rwa [Mq]at this
   have t2:∀a,Bw wr a->a.cell? ⟨w.heap.size,k*6+2,none⟩=some (Vi (F.V k).m):=fun a h=>by have:=(Cx (d.below h).f b).2.2.1;rwa [Mq]at this
   have t3:∀a,Bw wr a->a.cell? ⟨w.heap.size,k*6+3,none⟩=some (Vi (F.V k).h):=fun a h=>by have:=(Cx (d.below h).f b).2.2.2.1;rwa [Mq]at this
   have t4:∀a,Bw wr a->a.cell? ⟨w.heap.size,k*6+4,none⟩=some (Vi (F.V k).lo):=fun a h=>by have:=(Cx (d.below h).f b).2.2.2.2.1;rwa [Mq]at this
   have t5:∀a,Bw wr a->a.cell? ⟨w.heap.size,k*6+5,none⟩=some (Vi (F.V k).hi):=fun a h=>by have:=(Cx (d.below h).f b).2.2.2.2.2;rwa [Mq]at this
   have q0:∀a,Bw wr a->a.cell? ⟨w.heap.size+1,k*6,none⟩=some (Vi (G.V k).k):=fun a h=>(Cx (d.below h).g b).1
   have q1:∀a,Bw wr a->a.cell? ⟨w.heap.size+1,k*6+1,none⟩=some (.bool (G.V k).s):=fun a h=>(Cx (d.below h).g b).2.1
   have q2:∀a,Bw wr a->a.cell? ⟨w.heap.size+1,k*6+2,none⟩=some (Vi (G.V k).m):=fun a h=>(Cx (d.below h).g b).2.2.1
   have q3:∀a,Bw wr a->a.cell? ⟨w.heap.size+1,k*6+3,none⟩=some (Vi (G.V k).h):=fun a h=>(Cx (d.below h).g b).2.2.2.1
   have q4:∀a,Bw wr a->a.cell? ⟨w.heap.size+1,k*6+4,none⟩=some (Vi (G.V k).lo):=fun a h=>(Cx (d.below h).g b).2.2.2.2.1
   have q5:∀a,Bw wr a->a.cell? ⟨w.heap.size+1,k*6+5,none⟩=some (Vi (G.V k).hi):=fun a h=>(Cx (d.below h).g b).2.2.2.2.2
   refine BH (T:=fun a=>Bw wr a) (s:=12) AV BJ.drew (fun hHeld=>?_);refine NU [0,1,2,3,4,5,6,7,8] ?_;refine Bt 10 ?_;refine Ah (i:=9) rfl AV (fun KK O=>?_);go_simp;refine(Le _ _ _ _ _ _ _ _ _ _ _ _ _).mono ?_;rintro e u4⟨rfl,j⟩;have b4:=(Below.refl wr.heap.size wr).drew.trans j;clear j;obtain⟨R,hR⟩:=Au (Cg (F.V k) (G.V k));have Q:Cg ⟨(F.V k).k,(F.V k).s,(F.V k).m,(F.V k).h,(F.V k).lo,(F.V k).hi⟩ ⟨(G.V k).k,(G.V k).s,(G.V k).m,(G.V k).h,(G.V k).lo,(G.V k).hi⟩=R:=hR;rw[Q];have HR:=hxy hR;clear hR Q;simp only[VV.v];go_wp2_with fail;refine O.out _ _ b4 (fun q=>?_);clear O KK;refine Cn ?_;refine BR 11 ?_;have o:=hxy (d.below b4);clear t0 t1 t2 t3 t4 t5 q0 q1 q2 q3 q4 q5 d;have f0:=Cx o.f b;have N:=o.f.free;have aa:=o.f.lt;refine BD rfl AV AV (fun KK O=>?_);go_simp;refine O.out _ _ ?_;clear O KK f0 N aa hHeld q b4;obtain⟨u5,A⟩:∃v,v=(((((u4.setCell ⟨w.heap.size,k*6,none⟩ (Vi R.k)).setCell ⟨w.heap.size,k*6+1,none⟩ (.bool R.s)).setCell ⟨w.heap.size,k*6+2,none⟩ (Vi R.m)).setCell ⟨w.heap.size,k*6+3,none⟩ (Vi R.h)).setCell ⟨w.heap.size,k*6+4,none⟩ (Vi R.lo)).setCell ⟨w.heap.size,k*6+5,none⟩ (Vi R.hi):=⟨_,rfl⟩
   rw[<-A];have P5:Hid (qx w u5 F G (JV F G (k+1)) F.z F.c):=by
    rw[<-jA,HR.out];have j:Ft w.heap.size u4 u5:=by
     rw[A];exact(((((((Ft.refl _ _).set _ _).set _ _).set _ _).set _ _).set _ _).set _ _)
    exact⟨o.bel.trans ⟨j.os,j.tape,j.output,j.size,fun k hk=>j.block k (by have:=o.bel.size;omega) AB⟩,o.f.updF b R A,o.g.ft j AB,o.r.ft j AB⟩
   clear A o;go_wp2;go_roundw
   case rel=>exact⟨k+1,by go_num,AB,P5⟩
   case measure=>simp[intOf];omega
  ·have ab:k=8:=AB
   subst ab;have JX:Hid (Y=fA ⟨JV F G 8,MF F.z G.z,MF F.c G.c⟩):=by
    rw[<-HJ.out];exact VP (fun i hi=>by simp[JV,hi,jF])
   obtain⟨L,J⟩:=Au (MF F.z G.z);obtain⟨jc,I⟩:=Au (MF F.c G.c);rw[J,I]at JX;obtain⟨l,n,fl⟩:=BS.zc (F:=⟨JV F G 8,F.z,F.c⟩) d.f;have D:=d.g.zc;have N:=d.f.free;dsimp only at l n;go_wp2_with fail;refine(KO _ _ B.1.1 B.1.2 B.2.2.1.1 B.2.2.1.2 _).mono ?_;rintro e a⟨rfl,X⟩;rw[X,J];clear X J;go_upto_region 7 with fail;obtain⟨u2,S,p2⟩:∃y,wr.setCell ⟨w.heap.size,48,none⟩ (Vi L)=y/\qx w y F G (JV F G 8) L F.c:=
    ⟨_,rfl,d.bel.setCell (p:=⟨w.heap.size,48,none⟩) BQ _,d.f.updFz _,Ak.other d.g (by show w.heap.size≠w.heap.size+1;omega) _,Ak.other d.r (by show w.heap.size≠w.heap.size+1+1;omega) _⟩
   rw[S];have C:=hxy p2;clear S p2 l n fl D N d;obtain⟨l,n,fl⟩:=BS.zc (F:=⟨JV F G 8,L,F.c⟩) C.f;have D:=C.g.zc;have N:=C.f.free;dsimp only at l n;go_wp2_with fail;refine(KO _ _ B.2.1.1 B.2.1.2 B.2.2.2.1 B.2.2.2.2 _).mono ?_;rintro e a⟨rfl,X⟩;rw[X,I];clear X I;go_upto_region 8 with fail;obtain⟨u3,U,p3⟩:∃y,u2.setCell ⟨w.heap.size,49,none⟩ (Vi jc)=y/\qx w y F G (JV F G 8) L jc:=
    ⟨_,rfl,C.bel.setCell (p:=⟨w.heap.size,49,none⟩) BQ _,C.f.updFc _,Ak.other C.g (by show w.heap.size≠w.heap.size+1;omega) _,Ak.other C.r (by show w.heap.size≠w.heap.size+1+1;omega) _⟩
   rw[U];have Z:=hxy p3;clear U p3 l n fl D N C;go_wp2_with(first|(refine BI rfl (.tmp 2) rfl w.heap.size rfl ⟨JV F G 8,L,jc⟩ Y JX Z.f ?_)|(refine H6 rfl (.tmp 4) (.tmp 34) rfl (w.heap.size+1+1) ⟨JV F G 8,L,jc⟩ DC rfl Y JX rfl Z.r ?_;intro a hA j hz));have HA:=hxy hA;have HB:Hid (Bw w a):=Z.bel.trans ⟨j.os,j.tape,j.output,j.size,fun k hk=>j.block k (by have:=Z.bel.size;omega) AB⟩;clear hA j hz;go_wp2;exact bodyPost_ret (v:=.agg Y) (Kb rfl _ _ (w.heap.size+1+1) _ rfl (HA.var JX)) rfl ⟨rfl,HB⟩
theorem Dr{Z:Oper}{a:Act}{w:World}{v:Value}{K:Act->World->Prop}{Q:Exit->Act->World->Prop}(h:(execOp a.eval Z).run Tryz.prog w=.ok (.value v) w)(b:K (a.put Z.dst v) w):Z.wp Tryz.prog a w K Q:=by
 unfold Oper.wp;rw[h];exact b
def yY(F G:FS)(w:World)(e:Ending)(w':World):Prop:=∃r:Bool,e=.returned (.bool r)/\(r=true->JI F G)/\(r=false->¬JI F G)/\Below w.heap.size w w'
theorem OJ{F:FS}(h:BS u b F):(Instr.loadAt 69 (Vq b)).run Tryz.prog u=.ok (.agg (first 48 (vF F.V)).toArray) u:=
 run_loadAt_mid u b 0 _ (first 48 (vF F.V)) _ (fun j v c=>by obtain⟨a,rfl⟩:=Ca c;rw[Nat.zero_add,Ak.cell h (i:=j) AB];simp[fF,a]) Tryz.underlying69 rfl (by rw[Aw];exact OW)
theorem QT(F G:FS)(e q:Array Value)(hF:e=fA F)(Q:q=fA G)(N:∀i,i<8->WL (F.V i))(O:∀i,i<8->WL (G.V i))(w:World):Calls Tryz.prog 152 #[.agg e,.agg q] w (yY F G w):=by
 have D:=hxy hF;have E:=hxy Q;have C:Hid _:=fun w=>iW N O w
 clear hF Q N O;go_enter Tryz.func152,Tryz.ntmps152;go_upto_region 1 with fail;obtain⟨u,R,M,U,X⟩:∃y,(w.alloc (.cells e 71)).alloc (.cells q 71)=y/\Bw w y/\BS y w.heap.size F/\BS y (w.heap.size+1) G:=by
  have n0:=BS.new w D;have b0:=(Below.refl w.heap.size w).alloc BQ (.cells e 71);generalize hx:w.alloc (.cells e 71)=x at *;have s0:x.heap.size=w.heap.size+1:=by rw[<-hx];simp
  have S:=BS.new x E;have L:=(Below.refl x.heap.size x).alloc BQ (.cells q 71);rw[s0]at S;exact⟨_,rfl,b0.trans (L.mono AB),n0.below L,S⟩
 rw[R];have p:=hxy M;have I:=hxy U;have J:=hxy X;clear R M U X D E;obtain⟨r,s,m⟩:=C.out u;have j:=hxy m;have n:=OJ I;have o:=OJ J;obtain⟨Y,k⟩:=Au ((first 48 (vF F.V)).toArray);obtain⟨Z,l⟩:=Au ((first 48 (vF G.V)).toArray);rw[k]at s n;rw[l]at s o;have aa:=I.zc;have ab:=J.zc;clear m k l C;have ac:(Op.equalIn 10000 69 (.agg Y) (.agg Z)).run Tryz.prog u=.ok r u:=s;clear s;cases r with
 |false=>
  go_wp2_with(first|(refine wpList_plain rfl fun K a=>Dr (Dx _ (.tmp 5) rfl w.heap.size 0 rfl n) ?_;refine a _ _ ?_;clear a)|(refine wpList_plain rfl fun K a=>Dr (Dx _ (.tmp 7) rfl (w.heap.size+1) 0 rfl o) ?_;refine a _ _ ?_;clear a));go_ret;exact⟨false,rfl,fun h=>absurd h Ad,fun _ h=>absurd (j.2 h.2.2) Ad,p⟩
 |true=>
  by_cases b:F.z=G.z
  rotate_left
  ·have e0:(F.z==G.z)=false:=by simpa using b
   have A:=hxy b;clear b;go_wp2_with(first|(refine wpList_plain rfl fun K a=>Dr (Dx _ (.tmp 5) rfl w.heap.size 0 rfl n) ?_;refine a _ _ ?_;clear a)|(refine wpList_plain rfl fun K a=>Dr (Dx _ (.tmp 7) rfl (w.heap.size+1) 0 rfl o) ?_;refine a _ _ ?_;clear a));go_ret;exact⟨false,rfl,fun h=>absurd h Ad,fun _ h=>A.out h.1,p⟩
  have e0:(F.z==G.z)=true:=by simpa using b
  by_cases d:F.c=G.c
  rotate_left
  ·have e1:(F.c==G.c)=false:=by simpa using d
   have A:=hxy d;clear b d;go_wp2_with(first|(refine wpList_plain rfl fun K a=>Dr (Dx _ (.tmp 5) rfl w.heap.size 0 rfl n) ?_;refine a _ _ ?_;clear a)|(refine wpList_plain rfl fun K a=>Dr (Dx _ (.tmp 7) rfl (w.heap.size+1) 0 rfl o) ?_;refine a _ _ ?_;clear a));go_ret;exact⟨false,rfl,fun h=>absurd h Ad,fun _ h=>A.out h.2.1,p⟩
  have e1:(F.c==G.c)=true:=by simpa using d
  have B:Hid (F.z=G.z/\F.c=G.c):=⟨b,d⟩
  clear b d;go_wp2_with(first|(refine wpList_plain rfl fun K a=>Dr (Dx _ (.tmp 5) rfl w.heap.size 0 rfl n) ?_;refine a _ _ ?_;clear a)|(refine wpList_plain rfl fun K a=>Dr (Dx _ (.tmp 7) rfl (w.heap.size+1) 0 rfl o) ?_;refine a _ _ ?_;clear a));go_ret;exact⟨true,rfl,fun _=>⟨B.1,B.2,j.1 (by first|rfl|trivial)⟩,fun h=>absurd h Ad,p⟩
end Go.Proofs.YtjoppncopoampaaGreatDoor
namespace Go.Proofs.YtjoppncopoampaaGreatDoor
open Go.RowKit Go.ChangeMaps Go.MapKept
open Go.WideElems (Fit rg)
variable {a:Act}{l:List Value}{b:Nat}{Z:Oper}{Q u w:World}
def eL(F:FS)(k:Int):List Value:=first 50 (fF F.V F.z F.c)++[Vi k]
def rE:Value->Option (DataW Unit×List MemPlace):=fun _=>some (.lit (.bool true),[])
def JN(G:SG)(L:Nat->SV)(u:World)(mb:Nat)(n:Int):Prop:=
 ∃es clock,u.heap[mb]?=some (.map es clock)/\Fit Tryz.prog 261 rE es clock/\(es.size:Int)<=n/\∀x∈es.toList,∃(p:Nat)(F B:FS)(k:Int),x.key=.agg (MG p F).toArray/\x.val=.agg (eL B k).toArray/\Zl G L p F B k
theorem PK(w:World):(zeroValue 263).run Tryz.prog w=.ok (.agg (eL DC 0).toArray) w:=AV
section
variable{G:SG}{L:Nat->SV}{u u':World}{mb p:Nat}{n k:Int}{F B:FS}
theorem JN.made(w:World)(G:SG)(L:Nat->SV):JN G L (w.alloc (.map #[] 0)) w.heap.size 0:=
 ⟨#[],0,(MapKept.heap_alloc w _).1,⟨AX,stamped_empty 0,AX⟩,AX,AX⟩
theorem JN.kept(h:JN G L u mb n)(e:u'.heap[mb]?=u.heap[mb]?):JN G L u' mb n:=by
 obtain⟨b,a,c,d⟩:=h;exact⟨b,a,e.trans c,d⟩
theorem JN.lt(h:JN G L u mb n):mb<u.heap.size:=by
 obtain⟨c,a,b,_⟩:=h;exact(I8.1 b).1
theorem JN.mono(h:JN G L u mb n){E:Int}(k:n<=E):JN G L u mb E:=by
 obtain⟨b,a,c,d,j,e⟩:=h;exact⟨b,a,c,d,AB,e⟩
theorem iZ(hF:JD G F)(d:p<=2000):∃l,keyOf Tryz.prog 261 (.agg (MG p F).toArray)=some l:=by
 obtain⟨a,b,c⟩:=hF.1.rg;exact ji a b c (by unfold Rg;omega)
theorem JN.put(h:JN G L u mb n)(R:n<=1000)(J:p<=2000)(s:Zl G L p F B k):∃q,(Instr.mapUpdate 64 (.map (some mb)) (.agg (MG p F).toArray) (.agg (eL B k).toArray)).run Tryz.prog u=.ok () q/\JN G L q mb (n+1)/\Ft mb u q:=by
 obtain⟨A,l,m,C,Q,D⟩:=h;obtain⟨N,I⟩:=iZ s.1 J;obtain⟨b,a,j,y,d,_,_,c⟩:=Maps.fit_store (R':=rE) qX (t:=64) (e:=263) Tryz.underlying64 m C (by unfold maxLen;omega) (fun _ _ _ _ M=>M) (val:=.agg (eL B k).toArray) I rfl;refine⟨_,j,⟨b,a,heap_setBlock_same m _,y,?_,fun x K=>?_⟩,⟨rfl,rfl,rfl,by simp[setBlock],fun i _ E=>heap_setBlock_other m _ E⟩⟩
 ·have z:b.size=((b.toList.map (rg Tryz.prog 261 rE)).foldr DataW.insert []).length:=by rw[length_sorted];simp
  rw[z,d];unfold putKey;rw[length_insert];have r:=List.length_filter_le (notKey N) ((A.toList.map (rg Tryz.prog 261 rE)).foldr DataW.insert []);rw[length_sorted]at r;simp at r;omega
 ·rcases c x K with⟨o,_⟩|⟨o,O⟩
  ·exact D x o
  ·exact⟨p,F,B,k,o,O,s⟩
end
theorem Yb(p:Int)(F:FS)(w:World):(Instr.build 261 #[(0,Vi p),(1,.agg (fA F))]).run Tryz.prog w=.ok (.agg (MG p F).toArray) w:=AV
theorem YS(F:FS)(k:Int)(w:World):(Instr.build 263 #[(0,.agg (fA F)),(1,Vi k)]).run Tryz.prog w=.ok (.agg (eL F k).toArray) w:=AV
def Eg(u:World)(b:Nat)(l:List Value):Prop:=l.length=51/\(∀v∈l,v.oneCell'=true)/\Ak u b 51 (fun i=>l.getD i undef)
theorem Ws(p:Int)(F:FS):(MG p F).length=51/\∀v∈MG p F,v.oneCell'=true:=by
 refine⟨rfl,fun v a=>?_⟩;rcases List.mem_cons.1 a with rfl|a
 ·rfl
 ·obtain⟨j,_,rfl⟩:=Cv a;exact WW _ _ _ j
theorem Xm(F:FS)(k:Int):(eL F k).length=51/\∀v∈eL F k,v.oneCell'=true:=by
 refine⟨rfl,fun v a=>?_⟩;rcases List.mem_append.1 a with a|a
 ·obtain⟨j,_,rfl⟩:=Cv a;exact WW _ _ _ j
 ·obtain rfl:=List.mem_singleton.1 a;rfl
theorem Eg.below(h:Eg u b l)(f:Below u.heap.size u Q):Eg Q b l:=⟨h.1,h.2.1,h.2.2.below f h.2.2.lt⟩
theorem Eg.kc{m q:Nat}(h:Eg u q l)(f:Kc b m u Q)(a:q≠b)(c:q≠m):Eg Q q l:=⟨h.1,h.2.1,Ak.blk h.2.2 (f.block q h.2.2.lt a c)⟩
theorem Eg.ft{q:Nat}(h:Eg u b l)(f:Ft q u Q)(a:b≠q):Eg Q b l:=⟨h.1,h.2.1,Ak.blk h.2.2 (f.block b h.2.2.lt a)⟩
theorem Eg.new(w:World)(h:l.length=51/\∀v∈l,v.oneCell'=true)(t:TypeId):Eg (w.alloc (.cells l.toArray t)) w.heap.size l:=by
 refine⟨h.1,h.2,AX,fun i=>CP (Az w _) i,fun i a=>?_⟩;have e:l[i]?=some (l.getD i undef):=by rw[KJ,List.getElem?_eq_getElem AB];rfl
 rw[AJ (Az w _) i];simpa using e
theorem Eg.range(h:Eg u b l):u.rangeAt b 0 l:=fun j v a=>by
 have c:j<51:=by rw[<-h.1];exact(List.getElem?_eq_some_iff.1 a).1
 rw[Nat.zero_add,h.2.2.cell c,KJ,a];rfl
theorem Eg.facts{F:FS}{k:Int}(h:Eg u b (eL F k)):BS u b F:=by
 refine⟨h.2.2.lt,h.2.2.free,fun i a=>?_⟩;rw[h.2.2.cell AB];congr 1
 have:(eL F k)[i]?=some (fF F.V F.z F.c i):=by
  unfold eL;rw[List.getElem?_append_left (by rw[Aw];exact a)];simp[first,a]
 rw[KJ,this];rfl
theorem Eg.count{F:FS}{k:Int}(h:Eg u b (eL F k)):u.cell? (Va b 50)=some (Vi k):=h.2.2.cell (i:=50) AB
theorem Eg.store{K:Act->World->Prop}{Q:Exit->Act->World->Prop}(j:TypeId)(x y:Operand)(o:Z.op=.store j x y)(b:Nat)(l r:List Value)(p:a.eval x=Vq b)(A:Array Value)(n:A=l.toArray)(q:a.eval y=.agg A)(k:(Tryz.prog.info? j).map (·.size)=some 51)(c:l.length=51/\∀v∈l,v.oneCell'=true)(m:Eg w b r)
 (h:∀d,Eg d b l->Ft b w d->d.heap.size=w.heap.size->K (a.put Z.dst undef) d):Z.wp Tryz.prog a w K Q:=by
 subst n;have e:(l.toArray).size=51:=by simp[c.1]
 refine wp_store_mid j x y o b 0 l.toArray p q (by rw[e];exact m.2.2.there) (by rw[e];exact k) (all_oneCell_toArray c.2) (h _ ⟨c.1,c.2,?_⟩ (Ft.setsC _ _ (Ft.refl _ _)) (size_setCells ..));refine(m.2.2.setCells 0 l (by rw[c.1];omega)).congr (fun i k=>?_);rw[if_pos AB];rfl
theorem QD{R:Array Oper}{k:List Oper}{Q:Exit->Act->World->Prop}(d:Z.guard=none)(e:TypeId)(x y:Operand)(u:Z.op=.store e x y)(b:Nat)(l j:List Value)(B:a.eval x=Vq b)(A:Array Value)(p:A=l.toArray)(C:a.eval y=.agg A)(r:(Tryz.prog.info? e).map (·.size)=some 51)(s:l.length=51/\∀v∈l,v.oneCell'=true)(z:Eg w b j)
 (h:∀c,Eg c b l->Ft b w c->c.heap.size=w.heap.size->wpList Tryz.prog R Q k (a.put Z.dst undef) c):wpList Tryz.prog R Q (Z::k) a w:=
 wpList_plain d fun _ q=>Eg.store e x y u b l j B A p C r s z fun c m n o=>q _ _ (h c m n o)
theorem Qy:(Tryz.prog.info? 261).map (·.size)=some 51:=AV
theorem jN:(Tryz.prog.info? 263).map (·.size)=some 51:=AV
theorem OV(x:Operand)(e:Z.op=.load 261 x)(b:Nat)(h:a.eval x=Vq b)(l:List Value)(A:Array Value)(d:A=l.toArray)(c:Eg w b l):(execOp a.eval Z).run Tryz.prog w=.ok (.value (.agg A)) w:=by
 subst d;exact Dx _ x e b 0 h (run_loadAt_mid w b 0 _ l _ c.range Tryz.underlying261 rfl (by rw[c.1];exact Qy))
end Go.Proofs.YtjoppncopoampaaGreatDoor
namespace Go.Proofs.YtjoppncopoampaaGreatDoor
open Go.RowKit
variable {A t:Int}{a i n u:Nat}{L:Nat->SV}{s:SV}
structure RV where
 M:MV
 used:Int
 out:Bool
def RV.go(r:RV):Prop:=r.out=false/\r.M.st=0
def RV.goB(r:RV):Bool:=!r.out&&decide (r.M.st=0)
theorem RV.goB_iff{r:RV}:r.goB=true↔r.go:=by simp[RV.goB,RV.go]
theorem RV.goB_yes{r:RV}(h:r.go):r.goB=true:=RV.goB_iff.2 h
theorem RV.goB_nt{r:RV}(h:¬r.go):¬r.goB=true:=fun q=>h (RV.goB_iff.1 q)
theorem RV.goB_no{r:RV}(h:¬r.go):r.goB=false:=by simpa using RV.goB_nt h
def nk(s:SV)(M:MV):MV:=uq s.op.toNat s.d.toNat s.a.toNat s.b.toNat s.h.toNat s.imm M
def Jd(fu:Int)(s:SV)(r:RV):RV:=if r.used=fu then{r with out:=true}else{M:=nk s r.M,used:=r.used+1,out:=r.out}
def VD(c:Int)(M:MV):Bool:=if c<=2 then M.hz else M.hc
def TV(c:Int)(M:MV):Bool:=if c<=2 then M.z==decide (c=1)else M.c==decide (c=3)
def Ig(c:Int)(M:MV):MV:=if VD c M then M.see 2 (if TV c M then 0 else 1)else M.fault
def Di(fu:Int)(c:Int)(r:RV):RV×Bool:=
 if r.used=fu then({r with out:=true},false)else({M:=Ig c r.M,used:=r.used+1,out:=r.out},VD c r.M&&TV c r.M)
def FV(L:Nat->SV)(i:Nat):Nat:=i+1+(L i).thn.toNat+(L i).els.toNat
structure vo(L:Nat->SV)(fu:Int)(P:Nat->Nat->RV->RV->Prop):Prop where
 stop:∀{i te:Nat}{r:RV},¬(i<te/\r.go)->P i te r r
 ins:∀{i te:Nat}{r r':RV},i<te->r.go->(L i).k=1->P (FV L i) te (Jd fu (L i) r) r'->P i te r r'
 yes:∀{i te:Nat}{r r1 r2 r':RV},i<te->r.go->(L i).k=2->Di fu (L i).cond r=(r1,true)->P (i+1) (i+1+(L i).thn.toNat) r1 r2->P (FV L i) te r2 r'->P i te r r'
 no:∀{i te:Nat}{r r1 r2 r':RV},i<te->r.go->(L i).k=2->Di fu (L i).cond r=(r1,false)->P (i+1+(L i).thn.toNat) (FV L i) r1 r2->P (FV L i) te r2 r'->P i te r r'
 more:∀{i te:Nat}{r r1 r2 r':RV},i<te->r.go->(L i).k=3->Di fu (L i).cond r=(r1,true)->P (i+1) (i+1+(L i).thn.toNat) r1 r2->P i te r2 r'->P i te r r'
 done:∀{i te:Nat}{r r1 r':RV},i<te->r.go->(L i).k=3->Di fu (L i).cond r=(r1,false)->P (FV L i) te r1 r'->P i te r r'
def Ev(L:Nat->SV)(fu:Int)(i te:Nat)(r r':RV):Prop:=∀P,vo L fu P->P i te r r'
theorem Ev.cl(L:Nat->SV)(d:Int):vo L d (Ev L d):=⟨fun h _ c=>c.stop h,fun a b k h P c=>c.ins a b k (h P c),fun a b k l x y P c=>c.yes a b k l (x P c) (y P c),fun a b k l x y P c=>c.no a b k l (x P c) (y P c),fun a b k l x y P c=>c.more a b k l (x P c) (y P c),fun a b k l x P c=>c.done a b k l (x P c)⟩
theorem Ev.stop{r:RV}(h:¬(i<u/\r.go)):Ev L A i u r r:=(Ev.cl L A).stop h
theorem Ev.ins{r c:RV}(a:i<u)(b:r.go)(k:(L i).k=1)(x:Ev L A (FV L i) u (Jd A (L i) r) c):Ev L A i u r c:=(Ev.cl L A).ins a b k x
theorem Ev.yes{r d e c:RV}(a:i<u)(b:r.go)(k:(L i).k=2)(l:Di A (L i).cond r=(d,true))(x:Ev L A (i+1) (i+1+(L i).thn.toNat) d e)(y:Ev L A (FV L i) u e c):Ev L A i u r c:=(Ev.cl L A).yes a b k l x y
theorem Ev.no{r d e c:RV}(a:i<u)(b:r.go)(k:(L i).k=2)(l:Di A (L i).cond r=(d,false))(x:Ev L A (i+1+(L i).thn.toNat) (FV L i) d e)(y:Ev L A (FV L i) u e c):Ev L A i u r c:=(Ev.cl L A).no a b k l x y
theorem Ev.more{te:Nat}{r d e c:RV}(a:i<te)(b:r.go)(k:(L i).k=3)(l:Di A (L i).cond r=(d,true))(x:Ev L A (i+1) (i+1+(L i).thn.toNat) d e)(y:Ev L A i te e c):Ev L A i te r c:=(Ev.cl L A).more a b k l x y
theorem Ev.done{r d c:RV}(a:i<u)(b:r.go)(k:(L i).k=3)(l:Di A (L i).cond r=(d,false))(x:Ev L A (FV L i) u d c):Ev L A i u r c:=(Ev.cl L A).done a b k l x
structure yL(L:Nat->SV)(fu:Int)(i te:Nat)(r r':RV):Prop where
 me:Ev L fu i te r r'
 stop:¬(i<te/\r.go)->r'=r
 ins:i<te->r.go->(L i).k=1->Ev L fu (FV L i) te (Jd fu (L i) r) r'
 yes:i<te->r.go->(L i).k=2->∀{r1},Di fu (L i).cond r=(r1,true)->∃r2,Ev L fu (i+1) (i+1+(L i).thn.toNat) r1 r2/\Ev L fu (FV L i) te r2 r'
 no:i<te->r.go->(L i).k=2->∀{r1},Di fu (L i).cond r=(r1,false)->∃r2,Ev L fu (i+1+(L i).thn.toNat) (FV L i) r1 r2/\Ev L fu (FV L i) te r2 r'
 more:i<te->r.go->(L i).k=3->∀{r1},Di fu (L i).cond r=(r1,true)->∃r2,Ev L fu (i+1) (i+1+(L i).thn.toNat) r1 r2/\Ev L fu i te r2 r'
 done:i<te->r.go->(L i).k=3->∀{r1},Di fu (L i).cond r=(r1,false)->Ev L fu (FV L i) te r1 r'
theorem Ev.inv{r c:RV}(h:Ev L A i u r c):yL L A i u r c:=by
 have d:∀{a:RV×Bool}{x y:RV},a=(x,true)->a=(y,false)->False:=fun p q=>by rw[p]at q;cases(Prod.mk.inj q).2
 have j:∀{a:RV×Bool}{x y:RV}{b:Bool},a=(x,b)->a=(y,b)->x=y:=fun p q=>by rw[p]at q;exact(Prod.mk.inj q).1
 refine h (yL L A) ⟨?_,?_,?_,?_,?_,?_⟩
 ·intro i u r n
  exact⟨.stop n,fun _=>rfl,fun a b=>absurd ⟨a,b⟩ n,fun a b=>absurd ⟨a,b⟩ n,fun a b=>absurd ⟨a,b⟩ n,fun a b=>absurd ⟨a,b⟩ n,fun a b=>absurd ⟨a,b⟩ n⟩
 ·intro i u r c a b k x
  exact⟨.ins a b k x.me,fun n=>absurd ⟨a,b⟩ n,fun _ _ _=>x.me,fun _ _ q=>by omega,fun _ _ q=>by omega,fun _ _ q=>by omega,fun _ _ q=>by omega⟩
 ·intro i u r m o c a b k l x y
  exact⟨.yes a b k l x.me y.me,fun n=>absurd ⟨a,b⟩ n,fun _ _ q=>by omega,fun _ _ _ _ e=>by obtain rfl:=j l e;exact⟨_,x.me,y.me⟩,fun _ _ _ _ e=>(d l e).elim,fun _ _ q=>by omega,fun _ _ q=>by omega⟩
 ·intro i u r m o c a b k l x y
  exact⟨.no a b k l x.me y.me,fun n=>absurd ⟨a,b⟩ n,fun _ _ q=>by omega,fun _ _ _ _ e=>(d e l).elim,fun _ _ _ _ e=>by obtain rfl:=j l e;exact⟨_,x.me,y.me⟩,fun _ _ q=>by omega,fun _ _ q=>by omega⟩
 ·intro i u r m o c a b k l x y
  exact⟨.more a b k l x.me y.me,fun n=>absurd ⟨a,b⟩ n,fun _ _ q=>by omega,fun _ _ q=>by omega,fun _ _ q=>by omega,fun _ _ _ _ e=>by obtain rfl:=j l e;exact⟨_,x.me,y.me⟩,fun _ _ _ _ e=>(d l e).elim⟩
 ·intro i u r m c a b k l x
  exact⟨.done a b k l x.me,fun n=>absurd ⟨a,b⟩ n,fun _ _ q=>by omega,fun _ _ q=>by omega,fun _ _ q=>by omega,fun _ _ _ _ e=>(d e l).elim,fun _ _ _ _ e=>by obtain rfl:=j l e;exact x.me⟩
theorem xI(j d a b h:Nat)(c:Int)(M:MV):∃o,exec j d a b h c M 0=o/\uq j d a b h c M=(match o with|.inl (e,_)=>e|.inr e=>e.fault):=⟨_,rfl,rfl⟩
theorem uW{M:MV}(p:M.Ok)(e d a b h:Nat)(c:Int)(m:a<8)(n:b<8):(uq e d a b h c M).Ok/\(uq e d a b h c M).nO<=M.nO+1:=by
 have j:=Xq p e d a b h c 0 m n;have k:=XD e d a b h c M 0;unfold uq;generalize exec e d a b h c M 0=o at j k;cases o with
 |inl q=>obtain⟨l,r⟩:=q;exact⟨j,k.2.2⟩
 |inr l=>exact⟨MV.Ok.faulted j,k.2.2⟩
theorem fM{z:Int}(h:BZ s z=true)(c:s.k=1):BF s.op s.d s.a s.b s.imm s.h=true/\s.op<29:=by
 unfold BZ at h;rw[if_pos c]at h;simp only[Bool.and_eq_true,decide_eq_true_eq]at h;exact⟨h.1,h.2.1⟩
theorem lF{z:Int}(h:BZ s z=true)(a:s.k=2∨s.k=3):1<=s.cond/\s.cond<=4:=by
 unfold BZ at h;rcases a with a|a
 ·rw[if_neg AB,if_pos a]at h
  simp only[decide_eq_true_eq]at h;exact⟨h.2.1,h.2.2.1⟩
 ·rw[if_neg AB,if_neg AB,if_pos a]at h
  simp only[decide_eq_true_eq]at h;exact⟨h.2.1,h.2.2.1⟩
theorem kK{M:MV}(a:M.Ok)(c:Int):(Ig c M).Ok/\(Ig c M).nO<=M.nO+1:=by
 unfold Ig;split
 ·exact⟨a.seen _ _,BQ⟩
 ·exact⟨MV.Ok.faulted a,Nat.le_succ _⟩
def MV.at(M:MV)(x:Int):MV:={M with pc:=x}
def Ia.at(x:Int):Ia->Ia
 |.inl (M,n)=>.done (M.at x) n
 |.inr M=>.flt (M.at x)
theorem XK(M:MV)(x:Int)(h o:Nat)(v:Int):∀k,(M.at x).pokeN h o v k=(M.pokeN h o v k).at x
 |0=>rfl
 |k+1=>by show((M.at x).pokeN h o v k).poke _ _ _=_;rw[XK M x h o v k];rfl
theorem Zo(s:Bool)(a:Nat)(A:Int)(d h:Nat)(M:MV)(x e:Int):Cm s a A d h (M.at x) e=(Cm s a A d h M e).at x:=by
 unfold Cm;by_cases b:M.nH<=h
 ·rw[if_pos b,if_pos (show(M.at x).nH<=h from b)];rfl
 ·rw[if_neg b,if_neg (show¬(M.at x).nH<=h from b)]
  by_cases c:(lies (M.Hp h).base A a (M.Hp h).len&&(!s||(M.Hp h).wr))=true
  ·rw[if_pos c,if_pos (show(lies ((M.at x).Hp h).base A a ((M.at x).Hp h).len&&(!s||((M.at x).Hp h).wr))=true from c)]
   cases s with
   |true=>exact congrArg (fun q=>Ia.done q e) (XK (M.see 1 A) x h _ _ a)
   |false=>rfl
  ·rw[if_neg c,if_neg (show¬(lies ((M.at x).Hp h).base A a ((M.at x).Hp h).len&&(!s||((M.at x).Hp h).wr))=true from c)];rfl
theorem pO(c d a b h:Nat)(e:Int)(M:MV)(x j:Int)(l:1<=c)(m:c<=28):exec c d a b h e (M.at x) j=(exec c d a b h e M j).at x:=by
 have k:c=1∨c=2∨c=3∨c=4∨c=5∨c=6∨c=7∨c=8∨c=9∨c=10∨c=11∨c=12∨c=13∨c=14∨c=15∨c=16∨c=17∨c=18∨c=19∨c=20∨c=21∨c=22∨c=23∨c=24∨c=25∨c=26∨c=27∨c=28:=AB;rcases k with rfl|rfl|rfl|rfl|rfl|rfl|rfl|rfl|rfl|rfl|rfl|rfl|rfl|rfl|rfl|rfl|rfl|rfl|rfl|rfl|rfl|rfl|rfl|rfl|rfl|rfl|rfl|rfl;all_goals first
  |rfl
  |exact Zo _ _ _ _ _ _ _ _
  |(show(if M.hc=true then _ else _)=Ia.at x (if M.hc=true then _ else _)
    cases M.hc<;>rfl)
  |(show(if M.hz=true then _ else _)=Ia.at x (if M.hz=true then _ else _)
    cases M.hz<;>rfl)
def Iw(G:SG)(L:Nat->SV)(p:Nat)(F:FS)(r:Int):CR:=
 if(L p).k=1 then(if GU G (L p) F≠0 then .bad (GU G (L p) F) (p:Int)else .ok (Km G (L p) F) r)
 else cmpL G (L p) (seg L (p+1) (p+1+(L p).thn.toNat)) (seg L (p+1+(L p).thn.toNat) (FV L p)) (p:Int) F r
theorem WC(G:SG)(L:Nat->SV){p:Nat}(d:p<u)(b:BZ (L p) 0=true)(l:FV L p<=u)(F:FS)(r:Int):ET G (seg L p u) (p:Int) F r=match Iw G L p F r with
 |.inl (e,a)=>.bad e a
 |.inr (B,j)=>ET G (seg L (FV L p) u) (FV L p:Int) B j:=by
 unfold BZ at b;by_cases c:(L p).k=1
 ·rw[if_pos c]at b
  simp only[Bool.and_eq_true,decide_eq_true_eq]at b;have e:FV L p=p+1:=by unfold FV;omega
  rw[IG d,Sb c,Iw,if_pos c,e];by_cases h:GU G (L p) F≠0
  ·rw[if_pos h,if_pos h]
  ·rw[if_neg h,if_neg h]
   rfl
 ·have m:0<=(L p).thn/\0<=(L p).els:=by
   rw[if_neg c]at b;split at b
   ·simp only[decide_eq_true_eq]at b;omega
   split at b
   ·simp only[decide_eq_true_eq]at b;omega
   split at b
   ·simp only[decide_eq_true_eq]at b;omega
   ·cases b
  have e:seg L p u=L p::(seg L (p+1) (p+1+(L p).thn.toNat)++seg L (p+1+(L p).thn.toNat) (FV L p)++seg L (FV L p) u):=by
   rw[IG d,<-NZ AB (by unfold FV;omega),<-NZ (by unfold FV;omega) l]
  rw[e,Nz c (by rw[FH];omega) (by rw[FH];unfold FV;omega),Iw,if_neg c];cases cmpL G (L p) (seg L (p+1) (p+1+(L p).thn.toNat)) (seg L (p+1+(L p).thn.toNat) (FV L p)) (p:Int) F r with
  |inl q=>obtain⟨e,a⟩:=q;rfl
  |inr q=>
   obtain⟨B,j⟩:=q;dsimp only;rw[show(p:Int)+1+(L p).thn+(L p).els=(FV L p:Int)by unfold FV;omega]
structure CS(G:SG)(L:Nat->SV)(w0:World)(bC mb bH cH:Nat)(d:Int)(u:World)(r:Int):Prop where
 B:Below w0.heap.size w0 u
 C:u.heap[bC]?=some (.cells #[Vs bH G.nH cH,Vi r,.map (some mb)] 66)
 M:JN G L u mb (r-d)
 H:Ak u bH (G.nH*3) (Ur G.S)
 d0:0<=d
 r0:0<=r
 r1:r<=1000
 c1:w0.heap.size<=bC
 c2:w0.heap.size<=mb
 ne:bC≠mb
 hb:bH<w0.heap.size
section
variable{G:SG}{L:Nat->SV}{w0:World}{bC mb bH cH:Nat}{d:Int}{u u':World}{r:Int}
theorem CS.lt(h:CS G L w0 bC mb bH cH d u r):bC<u.heap.size:=(I8.1 h.C).1
theorem CS.below(h:CS G L w0 bC mb bH cH d u r)(f:Below u.heap.size u u'):CS G L w0 bC mb bH cH d u' r:=
 ⟨h.B.trans (f.mono h.B.size),(f.block bC h.lt).trans h.C,h.M.kept (f.block mb h.M.lt),h.H.below f h.H.lt,h.d0,h.r0,h.r1,h.c1,h.c2,h.ne,h.hb⟩
theorem CS.ft{q:Nat}(h:CS G L w0 bC mb bH cH d u r)(f:Ft q u u')(a:q≠bC)(b:q≠mb)(c:w0.heap.size<=q):CS G L w0 bC mb bH cH d u' r:=
 ⟨h.B.trans ⟨f.os,f.tape,f.output,f.size,fun k e=>f.block k (by have:=h.B.size;omega) AB⟩,(f.block bC h.lt (Ne.symm a)).trans h.C,h.M.kept (f.block mb h.M.lt (Ne.symm b)),Ak.blk h.H (f.block bH h.H.lt (by have:=h.hb;omega)),h.d0,h.r0,h.r1,h.c1,h.c2,h.ne,h.hb⟩
theorem CS.cells(h:CS G L w0 bC mb bH cH d u r):u.cell? (Va bC 0)=some (Vs bH G.nH cH)/\u.cell? (Va bC 1)=some (Vi r)/\u.cell? (Va bC 2)=some (.map (some mb))/\bC<u.heap.size/\∀i,u.frozen? (Va bC i)=false:=
 ⟨(AJ h.C 0).trans rfl,(AJ h.C 1).trans rfl,(AJ h.C 2).trans rfl,h.lt,CP h.C⟩
theorem CS.count(h:CS G L w0 bC mb bH cH d u r){e:Int}(b:r<=e)(a:e<=1000):CS G L w0 bC mb bH cH d (u.setCell (Va bC 1) (Vi e)) e:=by
 have f:Ft bC u (u.setCell (Va bC 1) (Vi e)):=(Ft.refl _ _).set _ _;exact⟨h.B.trans ⟨f.os,f.tape,f.output,f.size,fun k c=>f.block k (by have:=h.B.size;omega) (by have:=h.c1;omega)⟩,BG h.C 1 _,(h.M.kept (f.block mb h.M.lt (Ne.symm h.ne))).mono AB,Ak.blk h.H (f.block bH h.H.lt (by have:=h.hb;have:=h.c1;omega)),h.d0,by have:=h.r0;omega,a,h.c1,h.c2,h.ne,h.hb⟩
theorem CS.begin(h:CS G L w0 bC mb bH cH d u r)(b:r<1000):CS G L w0 bC mb bH cH (d+1) (u.setCell (Va bC 1) (Vi (r+1))) (r+1):=by
 have f:Ft bC u (u.setCell (Va bC 1) (Vi (r+1))):=(Ft.refl _ _).set _ _;have a:=h.d0;have e:=h.r0;exact⟨h.B.trans ⟨f.os,f.tape,f.output,f.size,fun k c=>f.block k (by have:=h.B.size;omega) (by have:=h.c1;omega)⟩,BG h.C 1 _,(h.M.kept (f.block mb h.M.lt (Ne.symm h.ne))).mono AB,Ak.blk h.H (f.block bH h.H.lt (by have:=h.hb;have:=h.c1;omega)),AB,AB,AB,h.c1,h.c2,h.ne,h.hb⟩
end
def NS(G:SG)(L:Nat->SV)(w0:World)(bC mb bH cH:Nat)(d:Int)(R:CR)(u:World)(e:Ending)(u':World):Prop:=
 Kc bC mb u u'/\((∃B r',R=.ok B r'/\JD G B/\e=.returned (.tuple #[.agg (fA B),.nilIface])/\CS G L w0 bC mb bH cH d u' r')∨∃err at' v,R=.bad err at'/\Fg v err at'/\e=.returned (.tuple #[.agg (fA DC),v]))
def Kq(G:SG)(L:Nat->SV)(w0:World)(bC mb bH cH i te:Nat)(tv:Value):Prop:=
 ∀(d:Int)(u:World)(F:FS)(FA:Array Value)(r:Int),FA=fA F->CS G L w0 bC mb bH cH d u r->JD G F->Calls Tryz.prog 19 #[Vq bC,tv,.agg FA] u (NS G L w0 bC mb bH cH d (ET G (seg L i te) (i:Int) F r) u)
def wZ(G:SG)(L:Nat->SV)(w0:World)(bC mb bH cH p:Nat)(x:Value):Prop:=
 ∀(d:Int)(u:World)(F:FS)(FA:Array Value)(r:Int),FA=fA F->CS G L w0 bC mb bH cH d u r->JD G F->Calls Tryz.prog 50 #[Vq bC,x,.agg FA] u (NS G L w0 bC mb bH cH d (Iw G L p F r) u)
theorem l9{G:SG}{F:FS}{FA:Array Value}(hF:FA=fA F)(m:BZ s 0=true)(D:s.k=1)(l:Ri G F)(n o:Nat)(w:World)(C:Ak w n (G.nH*3) (Ur G.S)):
 Calls Tryz.prog 82 #[.agg FA,.agg #[Vi s.op,Vi s.d,Vi s.a,Vi s.b,Vi s.imm,Vi s.h],Vs n G.nH o] w fun e q=>∃B:FS,e=.returned (.tuple #[.agg (fA B),Vi (GU G s F)])/\(GU G s F=0->B=Km G s F)/\Below w.heap.size w q:=by
 unfold BZ at m;rw[if_pos D]at m;simp only[Bool.and_eq_true,decide_eq_true_eq]at m;have j:s.op<=28:=AB;obtain⟨K,Y,Z,O,Q,R,U,h0,h7,E,I,J⟩:=Gx m.1 j;obtain⟨_,h8,A⟩:=FR l;have p:GU G s F=FL s.op (Jw s.op F.z F.c) (Gi F.V s.op F.z F.c s.a.toNat s.b.toNat) (DK s.op s.imm s.h (Gl F.V s.op s.a.toNat) (Gb F.V s.op s.b.toNat) (F.V s.d.toNat) (G.S s.h.toNat)):=by
  unfold GU TN;rw[if_pos ⟨l,m.1,j⟩]
 have h:=Xv F.V F.z F.c FA hF s.op s.imm s.d.toNat s.a.toNat s.b.toNat s.h.toNat AB AB AB K j E I J n o G.nH G.S AB A w C;rw[show((s.d.toNat:Nat):Int)=s.d by omega,show((s.a.toNat:Nat):Int)=s.a by omega,show((s.b.toNat:Nat):Int)=s.b by omega,show((s.h.toNat:Nat):Int)=s.h by omega]at h;refine h.mono ?_;rintro e q⟨rfl,y⟩;obtain⟨W,X,r,u,x⟩:=Y4 F.V F.z F.c s.d.toNat (kS s.op s.imm (Gl F.V s.op s.a.toNat) (Gb F.V s.op s.b.toNat) (Gi F.V s.op F.z F.c s.a.toNat s.b.toNat) (Jw s.op F.z F.c) (G.S s.h.toNat)) (FL s.op (Jw s.op F.z F.c) (Gi F.V s.op F.z F.c s.a.toNat s.b.toNat) (DK s.op s.imm s.h (Gl F.V s.op s.a.toNat) (Gb F.V s.op s.b.toNat) (F.V s.d.toNat) (G.S s.h.toNat))) (Ik s.op) (Fj s.op) (Gi F.V s.op F.z F.c s.a.toNat s.b.toNat);refine⟨⟨W,X,r⟩,by rw[u,p];rfl,fun e=>?_,y⟩;obtain⟨L,M,N⟩:=x (p.symm.trans e);unfold Km;rw[L,M,N];rfl
theorem sD(u:World){F:FS}{h:Array Value}(hF:h=fA F)(o:Obj):∃y,((u.alloc (.cells h 71)).alloc (.cells (CX (fun _=>zV) 0 0) 71)).alloc o=y/\Below u.heap.size u y/\BS y u.heap.size F/\BS y (u.heap.size+1) DC/\y.heap[u.heap.size+1+1]?=some o:=by
 have m:=BS.new u hF;have j:=(Below.refl u.heap.size u).alloc BQ (.cells h 71);generalize k:u.alloc (.cells h 71)=x at *;have e:x.heap.size=u.heap.size+1:=by rw[<-k];simp
 have c:=BS.new x (FA:=CX (fun _=>zV) 0 0) (F:=DC) rfl;have b:=(Below.refl x.heap.size x).alloc BQ (.cells (CX (fun _=>zV) 0 0) 71);generalize l:x.alloc (.cells (CX (fun _=>zV) 0 0) 71)=y at *;have n:y.heap.size=u.heap.size+1+1:=by rw[<-l];simp[e]
 have d:=Az y o;have a:=(Below.refl y.heap.size y).alloc BQ o;rw[e]at c;rw[n]at d;exact⟨_,rfl,(j.trans (b.mono AB)).trans (a.mono AB),(m.below b).below a,c.below a,d⟩
theorem xw(u:World){F:FS}{h:Array Value}(hF:h=fA F)(o:Obj):∃y,((u.alloc o).alloc (.cells h 71)).alloc (.cells (CX (fun _=>zV) 0 0) 71)=y/\Below u.heap.size u y/\y.heap[u.heap.size]?=some o/\BS y (u.heap.size+1) F/\BS y (u.heap.size+1+1) DC:=by
 have n:=Az u o;have j:=(Below.refl u.heap.size u).alloc BQ o;generalize l:u.alloc o=x at *;have e:x.heap.size=u.heap.size+1:=by rw[<-l];simp
 have c:=BS.new x hF;have b:=(Below.refl x.heap.size x).alloc BQ (.cells h 71);generalize m:x.alloc (.cells h 71)=y at *;have p:y.heap.size=u.heap.size+1+1:=by rw[<-m];simp[e]
 have d:=BS.new y (FA:=CX (fun _=>zV) 0 0) (F:=DC) rfl;have a:=(Below.refl y.heap.size y).alloc BQ (.cells (CX (fun _=>zV) 0 0) 71);rw[e]at c;rw[p]at d;have k:u.heap.size<x.heap.size:=AB;exact⟨_,rfl,(j.trans (b.mono AB)).trans (a.mono AB),(a.block _ AB).trans ((b.block _ k).trans n),c.below a,d⟩
theorem BS.fresh(u:World):BS (u.alloc (.cells (CX (fun _=>zV) 0 0) 71)) u.heap.size DC:=BS.new u rfl
def FM(r:RV):MV:={r.M with pc:=0,st:=if r.goB then 1 else r.M.st}
theorem Ev.outs{r a:RV}(h:Ev L A i u r a)(k:r.out=true->r.M.st=0):a.out=true->a.M.st=0:=by
 have l:∀s r,r.go->(Jd A s r).out=true->(Jd A s r).M.st=0:=fun s r d=>by
  unfold Jd;split
  ·exact fun _=>d.2
  ·intro h;exact absurd (d.1.symm.trans h) Ad
 have j:∀{c r r1 b},r.go->Di A c r=(r1,b)->r1.out=true->r1.M.st=0:=fun{c r r1 b}d h=>by
  have e:=congrArg Prod.fst h;simp only at e;rw[<-e];unfold Di;split
  ·exact fun _=>d.2
  ·intro h;exact absurd (d.1.symm.trans h) Ad
 exact h (fun _ _ r a=>(r.out=true->r.M.st=0)->a.out=true->a.M.st=0) ⟨fun _ k=>k,fun _ g _ m _=>m (l _ _ g),fun _ g _ h a b _=>b (a (j g h)),fun _ g _ h a b _=>b (a (j g h)),fun _ g _ h a b _=>b (a (j g h)),fun _ g _ h a _=>a (j g h)⟩ k
def wS:NV:=⟨0,0,0,0,0,0⟩
def yF(x:NV):Nat->Int
 |0=>x.op
 |1=>x.d
 |2=>x.a
 |3=>x.b
 |4=>x.imm
 |_=>x.h
def MW(xs:List NV)(i j:Nat):Int:=yF (xs.getD i wS) j
theorem nS(b:List NV):∀p,p<b.length*6->(ci b)[p]?=some (Kt (MW b) p):=by
 induction b with
 |nil=>intro p h;simp at h
 |cons a l e=>
  intro p h;show(uf a++ci l)[p]?=_;by_cases c:p<6
  ·rw[List.getElem?_append_left (by show p<6;exact c)]
   unfold Kt MW;rw[show p/6=0 by omega,show p%6=p by omega];match p,c with
   |0,_=>rfl
   |1,_=>rfl
   |2,_=>rfl
   |3,_=>rfl
   |4,_=>rfl
   |5,_=>rfl
  ·rw[List.getElem?_append_right (by show 6<=p;omega)]
   show(ci l)[p-6]?=_;rw[e (p-6) (by simp at h;omega)];unfold Kt MW;rw[show(p-6)/6=p/6-1 by omega,show(p-6)%6=p%6 by omega];obtain⟨q,d⟩:∃q,p/6=q+1:=⟨p/6-1,AB⟩
   rw[d];rfl
def wN(m:Nat)(y:NV):Prop:=BF y.op y.d y.a y.b y.imm y.h=true/\(EH y.op=true->y.imm<=(m:Int))
theorem LF{Z:Int}{t m:Nat}(a:Z=29∨Z=30∨Z=31∨Z=32∨Z=33)(d:t<=m)(c:m<=1999):wN m (BP Z (t:Int)):=by
 refine⟨?_,fun _=>by show(t:Int)<=m;omega⟩;have b:EM (t:Int) 0 1999=true:=by unfold EM;simp;omega
 show BF Z 0 0 0 (t:Int) 0=true;rcases a with rfl|rfl|rfl|rfl|rfl<;>(unfold BF;rw[show∀k,Ap k 8=Ap k 8 from fun _=>rfl];simp only[show Ap 29 8=true by kernel_rfl,show Ap 30 8=true by kernel_rfl,show Ap 31 8=true by kernel_rfl,show Ap 32 8=true by kernel_rfl,show Ap 33 8=true by kernel_rfl,show Ap 29 1=false by kernel_rfl,show Ap 30 1=false by kernel_rfl,show Ap 31 1=false by kernel_rfl,show Ap 32 1=false by kernel_rfl,show Ap 33 1=false by kernel_rfl,show Ap 29 2=false by kernel_rfl,show Ap 30 2=false by kernel_rfl,show Ap 31 2=false by kernel_rfl,show Ap 32 2=false by kernel_rfl,show Ap 33 2=false by kernel_rfl,show Ap 29 4=false by kernel_rfl,show Ap 30 4=false by kernel_rfl,show Ap 31 4=false by kernel_rfl,show Ap 32 4=false by kernel_rfl,show Ap 33 4=false by kernel_rfl,show Ap 29 16=false by kernel_rfl,show Ap 30 16=false by kernel_rfl,show Ap 31 16=false by kernel_rfl,show Ap 32 16=false by kernel_rfl,show Ap 33 16=false by kernel_rfl,Dc,DF,DL];simp;simp[EM];omega)
theorem XV(c:Int):CZ c=29∨CZ c=30∨CZ c=31∨CZ c=32∨CZ c=33:=by unfold CZ;(repeat' split)<;>omega
theorem WM(h:BZ s 0=true):s.k=1∨s.k=2∨s.k=3:=by
 unfold BZ at h;by_cases a:s.k=1
 ·exact .inl a
 by_cases b:s.k=2
 ·exact .inr (.inl b)
 by_cases c:s.k=3
 ·exact .inr (.inr c)
 rw[if_neg a,if_neg b,if_neg c]at h;split at h
 ·have:=of_decide_eq_true h;omega
 ·cases h
theorem uP:∀(m c i e:Nat)(b:Int),e-i<=m->(DU L 0 0 321 i e b).1=0->∀T:Nat,c+(CF L c i e).length<=T->T<=1999->∀y∈CF L c i e,wN T y:=by
 intro m;induction m with
 |zero=>intro c i e b D _ T _ _ y a;rw[IJ AB]at a;cases a
 |succ m o=>
  intro c i e b D C T l d y a;by_cases h:i<e
  rotate_left
  ·rw[IJ h]at a;cases a
  obtain⟨p,r,u,A,q⟩:=FX C h;obtain⟨x,n⟩:=Au (CF L (c+1) (i+1) (i+1+(L i).thn.toNat));rcases WM p with k|k|k
  ·rw[Rk h r k]at a l
   simp only[List.length_cons]at l;rcases List.mem_cons.1 a with rfl|a
   ·obtain⟨B,E⟩:=fM p k
    exact⟨B,fun j=>by unfold EH at j;simp only[Bool.and_eq_true,decide_eq_true_eq]at j;have:(IX (L i)).op=(L i).op:=rfl;omega⟩
   ·exact o (c+1) _ e b AB q T AB d y a
  ·obtain⟨z,s⟩:=Au (CF L (c+2+x.length) (i+1+(L i).thn.toNat) (i+1+(L i).thn.toNat+(L i).els.toNat))
   rw[OG h r k n s]at a l;simp only[List.length_cons,List.length_append]at l;rcases List.mem_cons.1 a with rfl|a
   ·exact LF (XV _) AB d
   rcases List.mem_append.1 a with a|a
   ·exact o (c+1) (i+1) _ _ AB u T (by rw[n];omega) d y (by rw[n];exact a)
   rcases List.mem_cons.1 a with rfl|a
   ·exact LF (Or.inl rfl) AB d
   rcases List.mem_append.1 a with a|a
   ·exact o _ _ _ _ AB A T (by rw[s];omega) d y (by rw[s];exact a)
   ·exact o _ _ e b AB q T AB d y a
  ·rw[PX h r k n]at a l
   simp only[List.length_cons,List.length_append]at l;rcases List.mem_cons.1 a with rfl|a
   ·exact LF (XV _) AB d
   rcases List.mem_append.1 a with a|a
   ·exact o (c+1) (i+1) _ _ AB u T (by rw[n];omega) d y (by rw[n];exact a)
   rcases List.mem_cons.1 a with rfl|a
   ·exact LF (Or.inl rfl) AB d
   ·exact o _ _ e b AB q T AB d y a
theorem Ni(h:Hq L n):Bb L n=CF L 0 0 n++[BP 34 0]/\(CF L 0 0 n).length<=1999:=by
 have a:=UW (L:=L) (Z:=fun _=>0) (fun _=>Int.le_refl _) n 0 0 n AB AB;have b:=h.2.2;rw[show Cs L (fun _=>0) 0=0 from rfl]at a;exact⟨by unfold Bb;rw[if_pos h],AB⟩
theorem Uf(h:Hq L n):EW (Bb L n).length (MW (Bb L n))=true:=by
 obtain⟨l,e⟩:=Ni h;have k:=uP n 0 0 n 0 AB h.2.1 (CF L 0 0 n).length AB e;rw[l];generalize CF L 0 0 n=a at e k;have b:(a++[BP 34 0]).length=a.length+1:=AX;rw[UR AB AB (fun i m=>?_),b,Nat.add_sub_cancel]
 ·show(yF ((a++[BP 34 0]).getD a.length wS) 0==34)=true
  rw[KJ,List.getElem?_append_right BQ,Nat.sub_self];rfl
 ·show(BF _ _ _ _ _ _&&_)=true
  by_cases c:i<a.length
  ·have d:(a++[BP 34 0]).getD i wS=a[i]:=by
    rw[KJ,List.getElem?_append_left c,List.getElem?_eq_getElem c];rfl
   have j:=k a[i] (List.getElem_mem c);unfold MW;rw[d,b];simp only[yF];rw[j.1];cases hj:EH a[i].op with
   |false=>rfl
   |true=>
    have:=j.2 hj;simp;omega
  ·have d:(a++[BP 34 0]).getD i wS=BP 34 0:=by
    rw[KJ,List.getElem?_append_right AB,show i-a.length=0 by omega];rfl
   unfold MW;rw[d];rfl
section
variable{P:List NV}{q:Nat}{M:MV}
abbrev uH(P:List NV)(M:MV):MV:=stepM P.length (MW P) M
abbrev Dw(P:List NV)(k:Nat)(M:MV):MV:=MQ P.length (MW P) k M
theorem Sr{y:NV}(c:P[q]?=some y):uH P (M.at q)=Jb (exec y.op.toNat y.d.toNat y.a.toNat y.b.toNat y.h.toNat y.imm (M.at q) (q+1)):=by
 have e:P.getD q wS=y:=by rw[KJ,c];rfl
 have j:=(List.getElem?_eq_some_iff.1 c).1;unfold uH;rw[Oi _ _ _ (by show¬(P.length:Int)<=q;omega)];show Jb (exec (MW P (q:Int).toNat 0).toNat (MW P (q:Int).toNat 1).toNat (MW P (q:Int).toNat 2).toNat (MW P (q:Int).toNat 3).toNat (MW P (q:Int).toNat 5).toNat (MW P (q:Int).toNat 4) (M.at q) (q+1))=_;unfold MW;rw[Int.toNat_natCast,e];rfl
theorem xE(k:P[q]?=some (IX s))(l:1<=s.op)(m:s.op<=28):∃x,uH P (M.at q)=(nk s M).at x/\((nk s M).st=0->x=q+1):=by
 rw[Sr k];show∃x,Jb (exec s.op.toNat s.d.toNat s.a.toNat s.b.toNat s.h.toNat s.imm (M.at q) (q+1))=_/\_;rw[pO _ _ _ _ _ _ _ _ _ AB AB];have e:=Vx s.op.toNat s.d.toNat s.a.toNat s.b.toNat s.h.toNat s.imm M AB AB;unfold nk uq;rcases e with⟨j,c,_,_⟩|⟨j,c⟩
 ·rw[c,c];exact⟨q+1,rfl,fun _=>rfl⟩
 ·rw[c,c];exact⟨q,rfl,fun h=>absurd (show(2:Int)=0 from h) Ad⟩
theorem vZ{c:Int}(b:P[q]?=some (BP (CZ c) t))(d:1<=c)(e:c<=4):∃x,uH P (M.at q)=(Ig c M).at x/\(VD c M=true->x=if TV c M then(q:Int)+1 else t):=by
 rw[Sr b];have a:c=1∨c=2∨c=3∨c=4:=AB;rcases a with rfl|rfl|rfl|rfl
 ·show∃x,Jb (Da M.hz M.z false t (M.at q) (q+1))=(if M.hz=true then M.see 2 (if(M.z==true)=true then 0 else 1)else M.fault).at x/\(M.hz=true->x=if(M.z==true)=true then(q:Int)+1 else t)
  cases M.hz<;>cases M.z<;>first|exact⟨_,rfl,AX⟩|exact⟨_,rfl,fun _=>rfl⟩
 ·show∃x,Jb (Da M.hz M.z true t (M.at q) (q+1))=(if M.hz=true then M.see 2 (if(M.z==false)=true then 0 else 1)else M.fault).at x/\(M.hz=true->x=if(M.z==false)=true then(q:Int)+1 else t)
  cases M.hz<;>cases M.z<;>first|exact⟨_,rfl,AX⟩|exact⟨_,rfl,fun _=>rfl⟩
 ·show∃x,Jb (Da M.hc M.c false t (M.at q) (q+1))=(if M.hc=true then M.see 2 (if(M.c==true)=true then 0 else 1)else M.fault).at x/\(M.hc=true->x=if(M.c==true)=true then(q:Int)+1 else t)
  cases M.hc<;>cases M.c<;>first|exact⟨_,rfl,AX⟩|exact⟨_,rfl,fun _=>rfl⟩
 ·show∃x,Jb (Da M.hc M.c true t (M.at q) (q+1))=(if M.hc=true then M.see 2 (if(M.c==false)=true then 0 else 1)else M.fault).at x/\(M.hc=true->x=if(M.c==false)=true then(q:Int)+1 else t)
  cases M.hc<;>cases M.c<;>first|exact⟨_,rfl,AX⟩|exact⟨_,rfl,fun _=>rfl⟩
theorem stepJ(a:P[q]?=some (BP 29 t)):uH P (M.at q)=M.at t:=by rw[Sr a];rfl
theorem I5{k:Nat}(h:M.st=0):Dw P (k+1) M=Dw P k (uH P M):=Qq _ _ k h
theorem Gh(a b:Nat):∀{M:MV},Dw P (a+b) M=Dw P b (Dw P a M):=by
 induction a with
 |zero=>intro M;rw[Nat.zero_add];rfl
 |succ a c=>
  intro M;by_cases h:M.st=0
  ·rw[Nat.succ_add,I5 h,I5 h,c]
  ·rw[show Dw P (a+1) M=M from EJ _ _ _ h,show Dw P b M=M from EJ _ _ _ h];exact EJ _ _ _ h
def Loc(P:List NV)(a:Nat)(X:List NV):Prop:=∀j,j<X.length->P[a+j]?=X[j]?
theorem Loc.head{y:NV}{X:List NV}(h:Loc P a (y::X)):P[a]?=some y:=h 0 (Nat.succ_pos _)
theorem Loc.tail{y:NV}{X:List NV}(h:Loc P a (y::X)):Loc P (a+1) X:=fun j b=>by
 have:=h (j+1) (Nat.succ_lt_succ b);rw[show a+1+j=a+(j+1)by omega,this];rfl
theorem Loc.left{X Y:List NV}(h:Loc P a (X++Y)):Loc P a X:=fun j b=>by
 rw[h j (by simp;omega),List.getElem?_append_left b]
theorem Loc.right{b:Nat}{X Y:List NV}(h:Loc P a (X++Y))(e:b=a+X.length):Loc P b Y:=fun j c=>by
 subst e;rw[Nat.add_assoc,h _ (by simp;omega),List.getElem?_append_right AB,Nat.add_sub_cancel_left]
end
section
variable{L:Nat->SV}{fu:Int}{P:List NV}
def Smt(L:Nat->SV)(P:List NV)(a i te:Nat)(r r':RV):Prop:=∃(k:Nat)(x:Int),(k:Int)<=2*(r'.used-r.used)/\r'.used-r.used<=k/\Dw P k (r.M.at a)=r'.M.at x/\(r'.go->x=(a:Int)+(CF L a i te).length)
def xu(L:Nat->SV)(P:List NV)(i te:Nat)(r r':RV):Prop:=(¬r.go->r'=r)/\∀(a:Nat)(depth:Int),(DU L 0 0 321 i te depth).1=0->Loc P a (CF L a i te)->Smt L P a i te r r'
theorem Qi(M:MV)(x:Int):(M.at x).st=M.st:=rfl
theorem KF{r d:RV}{b:Bool}{c:Int}(q:1<=c)(s:c<=4)(m:r.go)(l:Di fu c r=(d,b))(u:P[a]?=some (BP (CZ c) t)):
 (b=true/\d.go/\d.used=r.used+1/\Dw P 1 (r.M.at a)=d.M.at ((a:Int)+1))∨(b=false/\d.go/\d.used=r.used+1/\Dw P 1 (r.M.at a)=d.M.at t)∨(b=false/\¬d.go/\∃(k:Nat)(x:Int),(k:Int)<=2*(d.used-r.used)/\d.used-r.used<=k/\Dw P k (r.M.at a)=d.M.at x):=by
 unfold Di at l;by_cases p:r.used=fu
 ·rw[if_pos p]at l
  obtain⟨rfl,rfl⟩:=Prod.mk.inj l;exact .inr (.inr ⟨rfl,fun g=>absurd g.1 AX,0,a,AX,AX,rfl⟩)
 ·rw[if_neg p]at l
  obtain⟨rfl,rfl⟩:=Prod.mk.inj l;obtain⟨x,e,y⟩:=vZ (M:=r.M) u q s;have h:Dw P 1 (r.M.at a)=(Ig c r.M).at x:=by rw[I5 (by rw[Qi];exact m.2)];exact e
  by_cases j:VD c r.M=true
  ·have o:(Ig c r.M).st=0:=by unfold Ig;rw[if_pos j];exact m.2
   rw[y j]at h;cases hd:TV c r.M with
   |true=>exact .inl ⟨by rw[j];rfl,⟨m.1,o⟩,rfl,by rw[h,hd];rfl⟩
   |false=>exact .inr (.inl ⟨by rw[j];rfl,⟨m.1,o⟩,rfl,by rw[h,hd];rfl⟩)
  ·have n:VD c r.M=false:=by simpa using j
   refine .inr (.inr ⟨by rw[n];rfl,fun g=>?_,1,x,?_,?_,h⟩)
   ·have:=g.2
    simp only[Ig,n]at this;exact absurd (show(2:Int)=0 from this) Ad
   ·show((1:Nat):Int)<=2*(r.used+1-r.used);omega
   ·show r.used+1-r.used<=((1:Nat):Int);omega
theorem Smt.then{b j s:Nat}{r c n:RV}(p:∃(k:Nat)(x:Int),(k:Int)<=2*(c.used-r.used)/\c.used-r.used<=k/\Dw P k (r.M.at a)=c.M.at x/\(c.go->x=b))(m:xu L P j s c n)(d:Int)(y:(DU L 0 0 321 j s d).1=0)(q:Loc P b (CF L b j s))(z:(b:Int)+(CF L b j s).length=a+(CF L a i u).length):Smt L P a i u r n:=by
 obtain⟨k,x,C,D,e,A⟩:=p;by_cases g:c.go
 ·obtain⟨B,E,F,I,o,l⟩:=m.2 b d y q
  refine⟨k+B,E,AB,AB,?_,fun h=>by rw[l h,z]⟩;rw[Gh,e,A g,o]
 ·obtain rfl:=m.1 g
  exact⟨k,x,C,D,e,fun h=>absurd h g⟩
theorem oh{r S:RV}(h:Ev L fu i u r S):xu L P i u r S:=by
 refine h (xu L P) ⟨?_,?_,?_,?_,?_,?_⟩
 ·intro i u r n
  refine⟨fun _=>rfl,fun a d _ _=>⟨0,a,AX,AX,rfl,fun g=>?_⟩⟩;rw[IJ (fun q=>n ⟨q,g⟩)];simp
 ·intro i u r S A g k ih
  refine⟨fun n=>absurd g n,fun a d U m=>?_⟩;obtain⟨K,N,_,_,O⟩:=FX U A;have e:=Rk (at':=a) A N k;rw[e]at m;obtain⟨F,J⟩:=fM K k;have ab:=(Ma F).1;refine Smt.then (b:=a+1) ?_ ih d O m.tail (by rw[e];simp only[List.length_cons,FV];omega)
  unfold Jd;by_cases hu:r.used=fu
  ·rw[if_pos hu];exact⟨0,a,AX,AX,rfl,fun g=>absurd g.1 AX⟩
  ·rw[if_neg hu]
   obtain⟨x,e1,hx⟩:=xE (M:=r.M) m.head AB AB;refine⟨1,x,?_,?_,?_,fun g'=>(hx g'.2).trans AB⟩
   ·show((1:Nat):Int)<=2*(r.used+1-r.used);omega
   ·show r.used+1-r.used<=((1:Nat):Int);omega
   ·rw[I5 (by rw[Qi];exact g.2)];exact e1
 all_goals
  intro i u r r1;first|intro r2 S A g k l Z R|intro S A g k l R
  refine⟨fun n=>absurd g n,fun a d U m=>?_⟩;obtain⟨K,N,c1,c2,O⟩:=FX U A;have c:=lF K AB;obtain⟨X,E⟩:=Au (CF L (a+1) (i+1) (i+1+(L i).thn.toNat))
 ·obtain⟨Y,Q⟩:=Au (CF L (a+2+X.length) (i+1+(L i).thn.toNat) (FV L i))
  have e:=OG (at':=a) A N k E Q;rw[e]at m;rcases KF c.1 c.2 g l m.head with⟨_,D,u1,B⟩|⟨q,_⟩|⟨q,_⟩;rotate_left
  ·cases q
  ·cases q
  have p:=m.tail;have I:=(p.right (b:=a+1+X.length) rfl).head;refine Smt.then (b:=a+2+X.length+Y.length) ?_ R d O (((p.right (b:=a+1+X.length) rfl).tail).right AB) (by rw[e];simp only[List.length_cons,List.length_append,FV];omega)
  obtain⟨y,C,F,J,o,s⟩:=Z.2 (a+1) _ c1 (by rw[E];exact p.left);by_cases z:r2.go
  ·refine⟨1+(y+1),_,AB,AB,?_,fun _=>rfl⟩
   rw[Gh,B,Gh];rw[show r1.M.at ((a:Int)+1)=r1.M.at ((a+1:Nat):Int)by simp,o,s z,E,I5 (by rw[Qi];exact z.2)];exact stepJ (q:=a+1+X.length) I
  ·exact⟨1+y,C,AB,AB,by rw[Gh,B];exact o,fun g=>absurd g z⟩
 ·obtain⟨Y,Q⟩:=Au (CF L (a+2+X.length) (i+1+(L i).thn.toNat) (FV L i))
  have e:=OG (at':=a) A N k E Q;rw[e]at m;have p:=(m.tail.right (b:=a+1+X.length) rfl).tail;refine Smt.then (b:=a+2+X.length+Y.length) ?_ R d O (p.right AB) (by rw[e];simp only[List.length_cons,List.length_append,FV];omega)
  rcases KF c.1 c.2 g l m.head with⟨q,_⟩|⟨_,D,u1,B⟩|⟨_,D,y,C,F,J,o⟩
  ·cases q
  ·obtain⟨y,C,F,J,o,s⟩:=Z.2 (a+2+X.length) _ c2 (by rw[Q];exact fun j I=>by rw[show a+2+X.length+j=a+1+X.length+1+j by omega];exact p.left j I)
   exact⟨1+y,C,AB,AB,by rw[Gh,B];exact o,fun z=>by rw[s z,Q];omega⟩
  ·obtain rfl:=Z.1 D
   exact⟨y,C,F,J,o,fun g=>absurd g D⟩
 ·have e:=PX (at':=a) A N k E
  have aa:=m;rw[e]at m;rcases KF c.1 c.2 g l m.head with⟨_,D,u1,B⟩|⟨q,_⟩|⟨q,_⟩;rotate_left
  ·cases q
  ·cases q
  have p:=m.tail;have I:=(p.right (b:=a+1+X.length) rfl).head;refine Smt.then (b:=a) ?_ R d U aa rfl
  obtain⟨y,C,F,J,o,s⟩:=Z.2 (a+1) _ c1 (by rw[E];exact p.left);by_cases z:r2.go
  ·refine⟨1+(y+1),_,AB,AB,?_,fun _=>rfl⟩
   rw[Gh,B,Gh];rw[show r1.M.at ((a:Int)+1)=r1.M.at ((a+1:Nat):Int)by simp,o,s z,E,I5 (by rw[Qi];exact z.2)];exact stepJ (q:=a+1+X.length) I
  ·exact⟨1+y,C,AB,AB,by rw[Gh,B];exact o,fun g=>absurd g z⟩
 ·have e:=PX (at':=a) A N k E
  rw[e]at m;have p:=(m.tail.right (b:=a+1+X.length) rfl).tail;refine Smt.then (b:=a+2+X.length) ?_ R d O (fun j I=>by rw[show a+2+X.length+j=a+1+X.length+1+j by omega];exact p j I) (by rw[e];simp only[List.length_cons,List.length_append,FV];omega)
  rcases KF c.1 c.2 g l m.head with⟨q,_⟩|⟨_,D,u1,B⟩|⟨_,D,y,C,F,J,o⟩
  ·cases q
  ·exact⟨1,_,AB,AB,B,fun _=>by omega⟩
  ·exact⟨y,C,F,J,o,fun g=>absurd g D⟩
theorem Ev.full{r a:RV}(h:Ev L fu i u r a)(k:r.out=true->r.used=fu):a.out=true->a.used=fu:=by
 have l:∀s r,r.go->(Jd fu s r).out=true->(Jd fu s r).used=fu:=fun s r j=>by
  unfold Jd;split
  ·next h=>exact fun _=>h
  ·intro h;exact absurd (j.1.symm.trans h) Ad
 have d:∀{c r r1 b},r.go->Di fu c r=(r1,b)->r1.out=true->r1.used=fu:=fun{c r r1 b}j h=>by
  have e:=congrArg Prod.fst h;simp only at e;rw[<-e];unfold Di;split
  ·next h=>exact fun _=>h
  ·intro h;exact absurd (j.1.symm.trans h) Ad
 exact h (fun _ _ r a=>(r.out=true->r.used=fu)->a.out=true->a.used=fu) ⟨fun _ k=>k,fun _ g _ m _=>m (l _ _ g),fun _ g _ h a b _=>b (a (d g h)),fun _ g _ h a b _=>b (a (d g h)),fun _ g _ h a b _=>b (a (d g h)),fun _ g _ h a _=>a (d g h)⟩ k
theorem jC{M:MV}{a:RV}(p:Hq L n)(u:M.pc=0)(h:Ev L fu 0 n ⟨M,0,false⟩ a):0<=a.used/\(a.out=false->∃x,Dw (Bb L n) (2*a.used+1).toNat M=(FM a).at x)/\(a.out=true->(Dw (Bb L n) fu.toNat M).st=0):=by
 obtain⟨o,E⟩:=Ni p;have b:Loc (Bb L n) 0 (CF L 0 0 n):=fun j s=>by rw[o,Nat.zero_add,List.getElem?_append_left s]
 obtain⟨k,x,B,C,e,A⟩:=(oh (P:=Bb L n) h).2 0 0 p.2.1 b;have r:M.at ((0:Nat):Int)=M:=by unfold MV.at;rw[<-show M.pc=((0:Nat):Int)from u]
 simp only at B C e;rw[r]at e;have z:0<=a.used:=AB;refine⟨z,fun l=>?_,fun l=>?_⟩
 ·obtain⟨d,m⟩:∃d:Nat,(2*a.used+1).toNat=k+(d+1):=⟨(2*a.used+1).toNat-k-1,AB⟩
  rw[m,Gh,e];by_cases g:a.go
  ·have y:(Bb L n)[(CF L 0 0 n).length]?=some (BP 34 0):=by rw[o,List.getElem?_append_right BQ,Nat.sub_self];rfl
   rw[A g,I5 (by rw[Qi];exact g.2)];have c:=Sr (M:=a.M) y;rw[show((0:Nat):Int)+((CF L 0 0 n).length:Int)=((CF L 0 0 n).length:Int)by omega,c];refine⟨((CF L 0 0 n).length:Int),?_⟩;rw[show Dw (Bb L n) d _=_ from EJ _ _ _ (by show(1:Int)≠0;decide)];unfold FM;rw[RV.goB_yes g];rfl
  ·have c:a.M.st≠0:=fun q=>g ⟨l,q⟩
   refine⟨x,?_⟩;rw[show Dw (Bb L n) (d+1) _=_ from EJ _ _ _ (by rw[Qi];exact c)];unfold FM;rw[RV.goB_no g];rfl
 ·have D:=h.full (fun q=>by cases q) l
  have c:=h.outs (fun q=>by cases q) l;obtain⟨d,m⟩:∃d:Nat,k=fu.toNat+d:=⟨k-fu.toNat,AB⟩
  by_cases g:(Dw (Bb L n) fu.toNat M).st=0
  ·exact g
  ·rw[m,Gh,show Dw (Bb L n) d _=_ from EJ _ _ _ g]at e
   rw[e]at g;exact absurd c g
end
end Go.Proofs.YtjoppncopoampaaGreatDoor
