import Derived.Test.YtcjnmdgomocpgaaGreatDoorOfRunMath
import Derived.Test.YtcjnmdgomocpgaaGreatDoorOfCkAs
set_option maxHeartbeats 8000000
set_option maxRecDepth 20000
namespace Go.Proofs.YtcjnmdgomocpgaaGreatDoor
section
open Go.RowKit
structure RV where
 M:MV
 used:Int
 out:Bool
def VD(c:Int)(M:MV):Bool:=if c<=2 then M.hz else M.hc
def TV(c:Int)(M:MV):Bool:=if c<=2 then M.z==decide (c=1)else M.c==decide (c=3)
def Ig(c:Int)(M:MV):MV:=if VD c M then M.see 2 (if TV c M then 0 else 1)else M.fault
def FV(L:Nat->SV)(i:Nat):Nat:=i+1+(L i).thn.toNat+(L i).els.toNat
theorem fM{s:SV}{z:Int}(h:BZ s z=true)(c:s.k=1):BF s.op s.d s.a s.b s.imm s.h=true/\s.op<29:=by
 unfold BZ at h;rw[if_pos c]at h;simp only[Bool.and_eq_true,decide_eq_true_eq]at h;exact⟨h.1,h.2.1⟩
theorem lF{s:SV}{z:Int}(h:BZ s z=true)(a:s.k=2∨s.k=3):1<=s.cond/\s.cond<=4:=by
 unfold BZ at h;rcases a with a|a
 ·rw[if_neg AB,if_pos a]at h
  simp only[decide_eq_true_eq]at h;exact⟨h.2.1,h.2.2.1⟩
 ·rw[if_neg AB,if_neg AB,if_pos a]at h
  simp only[decide_eq_true_eq]at h;exact⟨h.2.1,h.2.2.1⟩
theorem kK{M:MV}(a:M.Ok)(c:Int):(Ig c M).Ok/\(Ig c M).nO<=M.nO+1:=by
 unfold Ig;split
 ·exact⟨a.seen _ _,BQ⟩
 ·exact⟨MV.Ok.faulted a,Nat.le_succ _⟩
def MV.at(M:MV)(x:Int):MV:={M with pc:=x}
def Ia.at(x:Int):Ia->Ia
 |.inl (M,n)=>.done (M.at x) n
 |.inr M=>.flt (M.at x)
theorem XK(M:MV)(x:Int)(h o:Nat)(v:Int):∀k,(M.at x).pokeN h o v k=(M.pokeN h o v k).at x
 |0=>rfl
 |k+1=>by show((M.at x).pokeN h o v k).poke _ _ _=_;rw[XK M x h o v k];rfl
theorem Zo(s:Bool)(a:Nat)(A:Int)(d h:Nat)(M:MV)(x e:Int):Cm s a A d h (M.at x) e=(Cm s a A d h M e).at x:=by
 unfold Cm;by_cases b:M.nH<=h
 ·rw[if_pos b,if_pos (show(M.at x).nH<=h from b)];rfl
 ·rw[if_neg b,if_neg (show¬(M.at x).nH<=h from b)]
  by_cases c:(lies (M.Hp h).base A a (M.Hp h).len&&(!s||(M.Hp h).wr))=true
  ·rw[if_pos c,if_pos (show(lies ((M.at x).Hp h).base A a ((M.at x).Hp h).len&&(!s||((M.at x).Hp h).wr))=true from c)]
   cases s with
   |true=>exact congrArg (fun q=>Ia.done q e) (XK (M.see 1 A) x h _ _ a)
   |false=>rfl
  ·rw[if_neg c,if_neg (show¬(lies ((M.at x).Hp h).base A a ((M.at x).Hp h).len&&(!s||((M.at x).Hp h).wr))=true from c)];rfl
theorem pO(c d a b h:Nat)(e:Int)(M:MV)(x j:Int)(l:1<=c)(m:c<=28):exec c d a b h e (M.at x) j=(exec c d a b h e M j).at x:=by
 have k:c=1∨c=2∨c=3∨c=4∨c=5∨c=6∨c=7∨c=8∨c=9∨c=10∨c=11∨c=12∨c=13∨c=14∨c=15∨c=16∨c=17∨c=18∨c=19∨c=20∨c=21∨c=22∨c=23∨c=24∨c=25∨c=26∨c=27∨c=28:=AB;rcases k with rfl|rfl|rfl|rfl|rfl|rfl|rfl|rfl|rfl|rfl|rfl|rfl|rfl|rfl|rfl|rfl|rfl|rfl|rfl|rfl|rfl|rfl|rfl|rfl|rfl|rfl|rfl|rfl;all_goals first
  |rfl
  |exact Zo _ _ _ _ _ _ _ _
  |(show(if M.hc=true then _ else _)=Ia.at x (if M.hc=true then _ else _)
    cases M.hc<;>rfl)
  |(show(if M.hz=true then _ else _)=Ia.at x (if M.hz=true then _ else _)
    cases M.hz<;>rfl)
end
section
open Go.RowKit Go.Deep
variable {c z:Int}{b:Nat}{V:Nat->VV}{u:World}
theorem Ms(F:FS)(b:Array Value)(hF:b=fA F)(cond:Int)(m:1<=cond)(n:cond<=4)(w:World):Ks 130 #[.agg b,Vi cond] w fun e r=>e=.returned (Vi (He F cond))/\Below w.heap.size w r:=by
 obtain⟨q,a⟩:=Au (He F cond);rw[a];have l:=hxy a;have k:=hxy hF;clear a hF;go_enter Tryz.func130,Tryz.ntmps130;go_upto_region 1 with fail;obtain⟨u,h,d,c⟩:∃y,w.alloc (.cells b 76)=y/\BS y w.heap.size F/\Bw w y:=⟨_,rfl,BS.new w k,Ai⟩
 rw[h];have p:=d.zc;have j:=hxy c;clear h d c;have o:cond=1∨cond=2∨cond=3∨cond=4:=AB;clear m n;rcases o with rfl|rfl|rfl|rfl;all_goals go_wp2
 all_goals(go_ret;refine⟨Ae ?_,j⟩;rw[<-l.out];simp_all[He])
theorem KO(a b:Int)(c:0<=a)(d:a<=2)(h:0<=b)(j:b<=2)(w:World):Ks 164 #[Vi a,Vi b] w fun e m=>e=.returned (Vi (MF a b))/\m=w:=by
 have k:a=0∨a=1∨a=2:=AB;have l:b=0∨b=1∨b=2:=AB;clear c d h j;rcases k with rfl|rfl|rfl<;>rcases l with rfl|rfl|rfl
 all_goals go_enter Tryz.func164,Tryz.ntmps164
 all_goals go_wp2
 all_goals(go_ret;exact⟨Ae Ad,rfl⟩)
theorem Ak.updF{v:World}(p:Ak u b 50 (fF V z c)){B:Nat}(o:B<8)(r:VV)(j:v=(((((u.setCell (Va b (B*6)) (Vi r.k)).setCell (Va b (B*6+1)) (.bool r.s)).setCell (Va b (B*6+2)) (Vi r.m)).setCell (Va b (B*6+3)) (Vi r.h)).setCell (Va b (B*6+4)) (Vi r.lo)).setCell (Va b (B*6+5)) (Vi r.hi)):Ak v b 50 (fF (Df V B r) z c):=by
 subst j;refine(Ak.set1 (Ak.set1 (Ak.set1 (Ak.set1 (Ak.set1 (Ak.set1 p (B*6) AB _) (B*6+1) AB _) (B*6+2) AB _) (B*6+3) AB _) (B*6+4) AB _) (B*6+5) AB _).congr (fun i q=>?_);by_cases a:i<48
 ·have x:=Nat.div_add_mod i 6
  have e:i%6<6:=Nat.mod_lt _ Ad;simp only[fF,if_pos a,vF,Df];generalize i/6=n at *;generalize i%6=l at *;by_cases d:n=B
  ·subst d
   rw[if_pos rfl];match l,e with
   |0,_=>rw[if_neg AB,if_neg AB,if_neg AB,if_neg AB,if_neg AB,if_pos AB];rfl
   |1,_=>rw[if_neg AB,if_neg AB,if_neg AB,if_neg AB,if_pos AB];rfl
   |2,_=>rw[if_neg AB,if_neg AB,if_neg AB,if_pos AB];rfl
   |3,_=>rw[if_neg AB,if_neg AB,if_pos AB];rfl
   |4,_=>rw[if_neg AB,if_pos AB];rfl
   |5,_=>rw[if_pos AB];rfl
  ·rw[if_neg d]
   iterate 6 rw[if_neg AB]
 ·iterate 6 rw[if_neg AB]
  simp only[fF,if_neg a]
theorem Ak.updFz(p:Ak u b 50 (fF V z c))(x:Int):Ak (u.setCell (Va b 48) (Vi x)) b 50 (fF V x c):=by
 refine(Ak.set1 p 48 AB _).congr (fun i a=>?_);by_cases h:i=48
 ·subst h;rfl
 ·rw[if_neg h];unfold fF;simp only[h,if_false]
theorem Ak.updFc(p:Ak u b 50 (fF V z c))(x:Int):Ak (u.setCell (Va b 49) (Vi x)) b 50 (fF V z x):=by
 refine(Ak.set1 p 49 AB _).congr (fun i d=>?_);by_cases h:i=49
 ·subst h;rfl
 ·rw[if_neg h]
  unfold fF;by_cases a:i<48
  ·simp[a]
  ·simp[show i=48 by omega]
theorem VP{U:Nat->VV}(h:∀i,i<8->V i=U i):CX V z c=CX U z c:=by
 unfold CX first
 congr 1
 apply List.map_congr_left;intro i a;unfold fF vF;split
 ·rw[h (i/6) AB]
 ·rfl
def JV(F G:FS)(k i:Nat):VV:=if i<k then Cg (F.V i) (G.V i)else F.V i
theorem jA(F G:FS)(k:Nat):Df (JV F G k) k (Cg (F.V k) (G.V k))=JV F G (k+1):=by
 funext i
 unfold Df JV;by_cases h:i=k
 ·subst h;simp
 ·by_cases a:i<k
  ·simp[h,a,show i<k+1 by omega]
  ·simp[h,a,show¬i<k+1 by omega]
theorem Mq(F G:FS)(k:Nat):JV F G k k=F.V k:=by simp[JV]
structure qx(w u:World)(F G:FS)(V:Nat->VV)(z c:Int):Prop where
 bel:Below w.heap.size w u
 f:Ak u w.heap.size 50 (fF V z c)
 g:BS u (w.heap.size+1) G
 r:BS u (w.heap.size+1+1) DC
theorem qx.below{w v:World}{F G:FS}(p:qx w u F G V z c)(h:Below u.heap.size u v):qx w v F G V z c:=⟨p.bel.trans (h.mono p.bel.size),p.f.below h p.f.lt,p.g.below h,p.r.below h⟩
theorem Cx(h:Ak u b 50 (fF V z c)){k:Nat}(a:k<8):u.cell? (Va b (k*6))=some (Vi (V k).k)/\u.cell? (Va b (k*6+1))=some (.bool (V k).s)/\u.cell? (Va b (k*6+2))=some (Vi (V k).m)/\u.cell? (Va b (k*6+3))=some (Vi (V k).h)/\u.cell? (Va b (k*6+4))=some (Vi (V k).lo)/\u.cell? (Va b (k*6+5))=some (Vi (V k).hi):=
 ⟨(h.cell (i:=k*6+0) AB).trans (congrArg some (FY V z c k 0 a AB)),(h.cell (i:=k*6+1) AB).trans (congrArg some (FY V z c k 1 a AB)),(h.cell (i:=k*6+2) AB).trans (congrArg some (FY V z c k 2 a AB)),(h.cell (i:=k*6+3) AB).trans (congrArg some (FY V z c k 3 a AB)),(h.cell (i:=k*6+4) AB).trans (congrArg some (FY V z c k 4 a AB)),(h.cell (i:=k*6+5) AB).trans (congrArg some (FY V z c k 5 a AB))⟩
theorem KZ(F G:FS)(K M:Array Value)(hF:K=fA F)(hG:M=fA G)(z0:0<=F.z)(z2:F.z<=2)(c0:0<=F.c)(c2:F.c<=2)(y0:0<=G.z)(y2:G.z<=2)(d0:0<=G.c)(d2:G.c<=2)(w:World):Ks 131 #[.agg K,.agg M] w fun e a=>e=.returned (.agg (fA (jF F G)))/\Below w.heap.size w a:=by
 obtain⟨Y,E⟩:=Au (fA (jF F G));rw[E];have HJ:=hxy E;have HF:=hxy hF;have HG:=hxy hG;have B:Hid ((0<=F.z/\F.z<=2)/\(0<=F.c/\F.c<=2)/\(0<=G.z/\G.z<=2)/\0<=G.c/\G.c<=2):=⟨⟨z0,z2⟩,⟨c0,c2⟩,⟨y0,y2⟩,d0,d2⟩
 clear E hF hG z0 z2 c0 c2 y0 y2 d0 d2;go_enter Tryz.func131,Tryz.ntmps131;go_upto_region 1 with fail;rw[BX];obtain⟨u,hu,pu⟩:∃y,((w.alloc (.cells K 76)).alloc (.cells M 76)).alloc (.cells (CX (fun _=>zV) 0 0) 76)=y/\qx w y F G (JV F G 0) F.z F.c:=by
  have n0:=BS.new w HF;have b0:=(Below.refl w.heap.size w).alloc BQ (.cells K 76);generalize hx:w.alloc (.cells K 76)=x at *;have s0:x.heap.size=w.heap.size+1:=by rw[<-hx];simp
  have n1:=BS.new x HG;have b1:=(Below.refl x.heap.size x).alloc BQ (.cells M 76);generalize hy:x.alloc (.cells M 76)=y at *;have s1:y.heap.size=w.heap.size+1+1:=by rw[<-hy];simp[s0]
  have n2:=BS.new y (FA:=CX (fun _=>zV) 0 0) (F:=DC) rfl;have b2:=(Below.refl y.heap.size y).alloc BQ (.cells (CX (fun _=>zV) 0 0) 76);rw[s0]at n1;rw[s1]at n2;have e:JV F G 0=F.V:=by funext i;simp[JV]
  refine⟨_,rfl,(b0.trans (b1.mono AB)).trans (b2.mono AB),?_,n1.below b2,n2⟩;rw[e];exact(n0.below b1).below b2
 rw[hu];have P0:=hxy pu;clear hu pu HF HG;go_wp2_with fail;go_loopw [6](fun iv wr=>∃k:Nat,iv=Vi k/\k<=8/\qx w wr F G (JV F G k) F.z F.c)(fun iv _=>8-(intOf iv).toNat)
 case atStart=>exact⟨0,rfl,AB,P0⟩
 case round=>
  obtain⟨k,rfl,hk,hp⟩:=hrel;have d:=hxy hp;clear hp P0;by_cases b:k<8
  ·have ac:(k:Int)<8:=AB
   go_upto_region 4 with fail;have t0:∀a,Bw wr a->a.cell? ⟨w.heap.size,k*6,none⟩=some (Vi (F.V k).k):=fun a h=>by have:=(Cx (d.below h).f b).1;rwa [Mq]at this
   have t1:∀a,Bw wr a->a.cell? ⟨w.heap.size,k*6+1,none⟩=some (.bool (F.V k).s):=fun a h=>by have:=(Cx (d.below h).f b).2.1;rwa [Mq]at this
   have t2:∀a,Bw wr a->a.cell? ⟨w.heap.size,k*6+2,none⟩=some (Vi (F.V k).m):=fun a h=>by have:=(Cx (d.below h).f b).2.2.1;rwa [Mq]at this
   have t3:∀a,Bw wr a->a.cell? ⟨w.heap.size,k*6+3,none⟩=some (Vi (F.V k).h):=fun a h=>by have:=(Cx (d.below h).f b).2.2.2.1;rwa [Mq]at this
   have t4:∀a,Bw wr a->a.cell? ⟨w.heap.size,k*6+4,none⟩=some (Vi (F.V k).lo):=fun a h=>by have:=(Cx (d.below h).f b).2.2.2.2.1;rwa [Mq]at this
   have t5:∀a,Bw wr a->a.cell? ⟨w.heap.size,k*6+5,none⟩=some (Vi (F.V k).hi):=fun a h=>by have:=(Cx (d.below h).f b).2.2.2.2.2;rwa [Mq]at this
   have q0:∀a,Bw wr a->a.cell? ⟨w.heap.size+1,k*6,none⟩=some (Vi (G.V k).k):=fun a h=>(Cx (d.below h).g b).1
   have q1:∀a,Bw wr a->a.cell? ⟨w.heap.size+1,k*6+1,none⟩=some (.bool (G.V k).s):=fun a h=>(Cx (d.below h).g b).2.1
   have q2:∀a,Bw wr a->a.cell? ⟨w.heap.size+1,k*6+2,none⟩=some (Vi (G.V k).m):=fun a h=>(Cx (d.below h).g b).2.2.1
   have q3:∀a,Bw wr a->a.cell? ⟨w.heap.size+1,k*6+3,none⟩=some (Vi (G.V k).h):=fun a h=>(Cx (d.below h).g b).2.2.2.1
   have q4:∀a,Bw wr a->a.cell? ⟨w.heap.size+1,k*6+4,none⟩=some (Vi (G.V k).lo):=fun a h=>(Cx (d.below h).g b).2.2.2.2.1
   have q5:∀a,Bw wr a->a.cell? ⟨w.heap.size+1,k*6+5,none⟩=some (Vi (G.V k).hi):=fun a h=>(Cx (d.below h).g b).2.2.2.2.2
   refine BH (T:=fun a=>Bw wr a) (s:=12) AV BJ.drew (fun hHeld=>?_);refine NU [0,1,2,3,4,5,6,7,8] ?_;refine Bt 10 ?_;refine Ah (i:=9) rfl AV (fun KK O=>?_);go_simp;refine(Le _ _ _ _ _ _ _ _ _ _ _ _ _).mono ?_;rintro e u4⟨rfl,j⟩;have b4:=(Below.refl wr.heap.size wr).drew.trans j;clear j;obtain⟨R,hR⟩:=Au (Cg (F.V k) (G.V k));have Q:Cg ⟨(F.V k).k,(F.V k).s,(F.V k).m,(F.V k).h,(F.V k).lo,(F.V k).hi⟩ ⟨(G.V k).k,(G.V k).s,(G.V k).m,(G.V k).h,(G.V k).lo,(G.V k).hi⟩=R:=hR;rw[Q];have HR:=hxy hR;clear hR Q;simp only[VV.v];go_wp2_with fail;refine O.out _ _ b4 (fun q=>?_);clear O KK;refine Cn ?_;refine BR 11 ?_;have o:=hxy (d.below b4);clear t0 t1 t2 t3 t4 t5 q0 q1 q2 q3 q4 q5 d;have f0:=Cx o.f b;have N:=o.f.free;have aa:=o.f.lt;refine BD rfl AV AV (fun KK O=>?_);go_simp;refine O.out _ _ ?_;clear O KK f0 N aa hHeld q b4;obtain⟨u5,A⟩:∃v,v=(((((u4.setCell ⟨w.heap.size,k*6,none⟩ (Vi R.k)).setCell ⟨w.heap.size,k*6+1,none⟩ (.bool R.s)).setCell ⟨w.heap.size,k*6+2,none⟩ (Vi R.m)).setCell ⟨w.heap.size,k*6+3,none⟩ (Vi R.h)).setCell ⟨w.heap.size,k*6+4,none⟩ (Vi R.lo)).setCell ⟨w.heap.size,k*6+5,none⟩ (Vi R.hi):=⟨_,rfl⟩
   rw[<-A];have P5:Hid (qx w u5 F G (JV F G (k+1)) F.z F.c):=by
    rw[<-jA,HR.out];have j:Ft w.heap.size u4 u5:=by
     rw[A];exact(((((((Ft.refl _ _).set _ _).set _ _).set _ _).set _ _).set _ _).set _ _)
    exact⟨o.bel.trans ⟨j.os,j.tape,j.output,j.size,fun k hk=>j.block k (by have:=o.bel.size;omega) AB⟩,o.f.updF b R A,o.g.ft j AB,o.r.ft j AB⟩
   clear A o;go_wp2;go_roundw
   case rel=>exact⟨k+1,by go_num,AB,P5⟩
   case measure=>simp[intOf];omega
  ·have ab:k=8:=AB
   subst ab;have JX:Hid (Y=fA ⟨JV F G 8,MF F.z G.z,MF F.c G.c⟩):=by
    rw[<-HJ.out];exact VP (fun i hi=>by simp[JV,hi,jF])
   obtain⟨L,J⟩:=Au (MF F.z G.z);obtain⟨jc,I⟩:=Au (MF F.c G.c);rw[J,I]at JX;obtain⟨l,n,fl⟩:=BS.zc (F:=⟨JV F G 8,F.z,F.c⟩) d.f;have D:=d.g.zc;have N:=d.f.free;dsimp only at l n;go_wp2_with fail;refine(KO _ _ B.1.1 B.1.2 B.2.2.1.1 B.2.2.1.2 _).mono ?_;rintro e a⟨rfl,X⟩;rw[X,J];clear X J;go_upto_region 7 with fail;obtain⟨u2,S,p2⟩:∃y,wr.setCell ⟨w.heap.size,48,none⟩ (Vi L)=y/\qx w y F G (JV F G 8) L F.c:=
    ⟨_,rfl,d.bel.setCell (p:=⟨w.heap.size,48,none⟩) BQ _,d.f.updFz _,Ak.other d.g (by show w.heap.size≠w.heap.size+1;omega) _,Ak.other d.r (by show w.heap.size≠w.heap.size+1+1;omega) _⟩
   rw[S];have C:=hxy p2;clear S p2 l n fl D N d;obtain⟨l,n,fl⟩:=BS.zc (F:=⟨JV F G 8,L,F.c⟩) C.f;have D:=C.g.zc;have N:=C.f.free;dsimp only at l n;go_wp2_with fail;refine(KO _ _ B.2.1.1 B.2.1.2 B.2.2.2.1 B.2.2.2.2 _).mono ?_;rintro e a⟨rfl,X⟩;rw[X,I];clear X I;go_upto_region 8 with fail;obtain⟨u3,U,p3⟩:∃y,u2.setCell ⟨w.heap.size,49,none⟩ (Vi jc)=y/\qx w y F G (JV F G 8) L jc:=
    ⟨_,rfl,C.bel.setCell (p:=⟨w.heap.size,49,none⟩) BQ _,C.f.updFc _,Ak.other C.g (by show w.heap.size≠w.heap.size+1;omega) _,Ak.other C.r (by show w.heap.size≠w.heap.size+1+1;omega) _⟩
   rw[U];have Z:=hxy p3;clear U p3 l n fl D N C;go_wp2_with(first|(refine BI rfl (.tmp 2) rfl w.heap.size rfl ⟨JV F G 8,L,jc⟩ Y JX Z.f ?_)|(refine H6 rfl (.tmp 4) (.tmp 34) rfl (w.heap.size+1+1) ⟨JV F G 8,L,jc⟩ DC rfl Y JX rfl Z.r ?_;intro a hA j hz));have HA:=hxy hA;have HB:Hid (Bw w a):=Z.bel.trans ⟨j.os,j.tape,j.output,j.size,fun k hk=>j.block k (by have:=Z.bel.size;omega) AB⟩;clear hA j hz;go_wp2;exact mY (.agg Y) (Kb rfl _ _ (w.heap.size+1+1) _ rfl (HA.var JX)) ⟨rfl,HB⟩
theorem Dr{Z:Oper}{a:Act}{w:World}{v:Value}{K:Act->World->Prop}{Q:Exit->Act->World->Prop}(h:(execOp a.eval Z).run Tryz.prog w=.ok (.value v) w)(b:K (a.put Z.dst v) w):Z.wp Tryz.prog a w K Q:=by
 unfold Oper.wp;rw[h];exact b
def yY(F G:FS)(w:World)(e:Ending)(w':World):Prop:=∃r:Bool,e=.returned (.bool r)/\(r=true->JI F G)/\(r=false->¬JI F G)/\Below w.heap.size w w'
theorem OJ{F:FS}(h:BS u b F):(Instr.loadAt 74 (Vq b)).run Tryz.prog u=.ok (.agg (first 48 (vF F.V)).toArray) u:=
 run_loadAt_mid u b 0 _ (first 48 (vF F.V)) _ (fun j v c=>by obtain⟨a,rfl⟩:=Ca c;rw[Nat.zero_add,Ak.cell h (i:=j) AB];simp[fF,a]) Tryz.underlying74 rfl (by rw[Aw];exact OW)
theorem QT(F G:FS)(e q:Array Value)(hF:e=fA F)(Q:q=fA G)(N:∀i,i<8->WL (F.V i))(O:∀i,i<8->WL (G.V i))(w:World):Ks 133 #[.agg e,.agg q] w (yY F G w):=by
 have D:=hxy hF;have E:=hxy Q;have C:Hid _:=fun w=>iW N O w
 clear hF Q N O;go_enter Tryz.func133,Tryz.ntmps133;go_upto_region 1 with fail;obtain⟨u,R,M,U,X⟩:∃y,(w.alloc (.cells e 76)).alloc (.cells q 76)=y/\Bw w y/\BS y w.heap.size F/\BS y (w.heap.size+1) G:=by
  have n0:=BS.new w D;have b0:=(Below.refl w.heap.size w).alloc BQ (.cells e 76);generalize hx:w.alloc (.cells e 76)=x at *;have s0:x.heap.size=w.heap.size+1:=by rw[<-hx];simp
  have S:=BS.new x E;have L:=(Below.refl x.heap.size x).alloc BQ (.cells q 76);rw[s0]at S;exact⟨_,rfl,b0.trans (L.mono AB),n0.below L,S⟩
 rw[R];have p:=hxy M;have I:=hxy U;have J:=hxy X;clear R M U X D E;obtain⟨r,s,m⟩:=C.out u;have j:=hxy m;have n:=OJ I;have o:=OJ J;obtain⟨Y,k⟩:=Au ((first 48 (vF F.V)).toArray);obtain⟨Z,l⟩:=Au ((first 48 (vF G.V)).toArray);rw[k]at s n;rw[l]at s o;have aa:=I.zc;have ab:=J.zc;clear m k l C;have ac:(Op.equalIn 10000 74 (.agg Y) (.agg Z)).run Tryz.prog u=.ok r u:=s;clear s;cases r with
 |false=>
  go_wp2_with(first|(refine wpList_plain rfl fun K a=>Dr (Dx _ (.tmp 5) rfl w.heap.size 0 rfl n) ?_;refine a _ _ ?_;clear a)|(refine wpList_plain rfl fun K a=>Dr (Dx _ (.tmp 7) rfl (w.heap.size+1) 0 rfl o) ?_;refine a _ _ ?_;clear a));go_ret;exact⟨false,rfl,fun h=>absurd h Ad,fun _ h=>absurd (j.2 h.2.2) Ad,p⟩
 |true=>
  by_cases b:F.z=G.z
  rotate_left
  ·have e0:(F.z==G.z)=false:=by simpa using b
   have A:=hxy b;clear b;go_wp2_with(first|(refine wpList_plain rfl fun K a=>Dr (Dx _ (.tmp 5) rfl w.heap.size 0 rfl n) ?_;refine a _ _ ?_;clear a)|(refine wpList_plain rfl fun K a=>Dr (Dx _ (.tmp 7) rfl (w.heap.size+1) 0 rfl o) ?_;refine a _ _ ?_;clear a));go_ret;exact⟨false,rfl,fun h=>absurd h Ad,fun _ h=>A.out h.1,p⟩
  have e0:(F.z==G.z)=true:=by simpa using b
  by_cases d:F.c=G.c
  rotate_left
  ·have e1:(F.c==G.c)=false:=by simpa using d
   have A:=hxy d;clear b d;go_wp2_with(first|(refine wpList_plain rfl fun K a=>Dr (Dx _ (.tmp 5) rfl w.heap.size 0 rfl n) ?_;refine a _ _ ?_;clear a)|(refine wpList_plain rfl fun K a=>Dr (Dx _ (.tmp 7) rfl (w.heap.size+1) 0 rfl o) ?_;refine a _ _ ?_;clear a));go_ret;exact⟨false,rfl,fun h=>absurd h Ad,fun _ h=>A.out h.2.1,p⟩
  have e1:(F.c==G.c)=true:=by simpa using d
  have B:Hid (F.z=G.z/\F.c=G.c):=⟨b,d⟩
  clear b d;go_wp2_with(first|(refine wpList_plain rfl fun K a=>Dr (Dx _ (.tmp 5) rfl w.heap.size 0 rfl n) ?_;refine a _ _ ?_;clear a)|(refine wpList_plain rfl fun K a=>Dr (Dx _ (.tmp 7) rfl (w.heap.size+1) 0 rfl o) ?_;refine a _ _ ?_;clear a));go_ret;exact⟨true,rfl,fun _=>⟨B.1,B.2,j.1 (by first|rfl|trivial)⟩,fun h=>absurd h Ad,p⟩
end
section
open Go.RowKit Go.ChangeMaps Go.MapKept
open Go.WideElems (Fit rg)
variable {a:Act}{l:List Value}{b:Nat}{Z:Oper}{Q u w:World}
def eL(F:FS)(k:Int):List Value:=first 50 (fF F.V F.z F.c)++[Vi k]
def rE:Value->Option (DataW Unit×List MemPlace):=fun _=>some (.lit (.bool true),[])
def JN(G:SG)(L:Nat->SV)(u:World)(mb:Nat)(n:Int):Prop:=
 ∃es clock,u.heap[mb]?=some (.map es clock)/\Fit Tryz.prog 240 rE es clock/\(es.size:Int)<=n/\∀x∈es.toList,∃(p:Nat)(F B:FS)(k:Int),x.key=.agg (MG p F).toArray/\x.val=.agg (eL B k).toArray/\Zl G L p F B k
theorem PK(w:World):(zeroValue 242).run Tryz.prog w=.ok (.agg (eL DC 0).toArray) w:=AV
section
variable{G:SG}{L:Nat->SV}{u u':World}{mb p:Nat}{n k:Int}{F B:FS}
theorem JN.made(w:World)(G:SG)(L:Nat->SV):JN G L (w.alloc (.map #[] 0)) w.heap.size 0:=
 ⟨#[],0,(MapKept.heap_alloc w _).1,⟨AX,stamped_empty 0,AX⟩,AX,AX⟩
theorem JN.kept(h:JN G L u mb n)(e:u'.heap[mb]?=u.heap[mb]?):JN G L u' mb n:=by
 obtain⟨b,a,c,d⟩:=h;exact⟨b,a,e.trans c,d⟩
theorem JN.lt(h:JN G L u mb n):mb<u.heap.size:=by
 obtain⟨c,a,b,_⟩:=h;exact(I8.1 b).1
theorem JN.mono(h:JN G L u mb n){E:Int}(k:n<=E):JN G L u mb E:=by
 obtain⟨b,a,c,d,j,e⟩:=h;exact⟨b,a,c,d,AB,e⟩
theorem iZ(hF:JD G F)(d:p<=2000):∃l,keyOf Tryz.prog 240 (.agg (MG p F).toArray)=some l:=by
 obtain⟨a,b,c⟩:=hF.1.rg;exact ji a b c (by unfold Rg;omega)
theorem JN.put(h:JN G L u mb n)(R:n<=1000)(J:p<=2000)(s:Zl G L p F B k):∃q,(Instr.mapUpdate 71 (.map (some mb)) (.agg (MG p F).toArray) (.agg (eL B k).toArray)).run Tryz.prog u=.ok () q/\JN G L q mb (n+1)/\Ft mb u q:=by
 obtain⟨A,l,m,C,Q,D⟩:=h;obtain⟨N,I⟩:=iZ s.1 J;obtain⟨b,a,j,y,d,_,_,c⟩:=Maps.fit_store (R':=rE) qX (t:=71) (e:=242) Tryz.underlying71 m C (by unfold maxLen;omega) (fun _ _ _ _ M=>M) (val:=.agg (eL B k).toArray) I rfl;refine⟨_,j,⟨b,a,heap_setBlock_same m _,y,?_,fun x K=>?_⟩,⟨rfl,rfl,rfl,by simp[setBlock],fun i _ E=>heap_setBlock_other m _ E⟩⟩
 ·have z:b.size=((b.toList.map (rg Tryz.prog 240 rE)).foldr DataW.insert []).length:=by rw[length_sorted];simp
  rw[z,d];unfold putKey;rw[length_insert];have r:=List.length_filter_le (notKey N) ((A.toList.map (rg Tryz.prog 240 rE)).foldr DataW.insert []);rw[length_sorted]at r;simp at r;omega
 ·rcases c x K with⟨o,_⟩|⟨o,O⟩
  ·exact D x o
  ·exact⟨p,F,B,k,o,O,s⟩
end
theorem Yb(p:Int)(F:FS)(w:World):(Instr.build 240 #[(0,Vi p),(1,.agg (fA F))]).run Tryz.prog w=.ok (.agg (MG p F).toArray) w:=AV
theorem YS(F:FS)(k:Int)(w:World):(Instr.build 242 #[(0,.agg (fA F)),(1,Vi k)]).run Tryz.prog w=.ok (.agg (eL F k).toArray) w:=AV
def Eg(u:World)(b:Nat)(l:List Value):Prop:=l.length=51/\(∀v∈l,v.oneCell'=true)/\Ak u b 51 (fun i=>l.getD i undef)
theorem Ws(p:Int)(F:FS):(MG p F).length=51/\∀v∈MG p F,v.oneCell'=true:=by
 refine⟨rfl,fun v a=>?_⟩;rcases List.mem_cons.1 a with rfl|a
 ·rfl
 ·obtain⟨j,_,rfl⟩:=Cv a;exact WW _ _ _ j
theorem Xm(F:FS)(k:Int):(eL F k).length=51/\∀v∈eL F k,v.oneCell'=true:=by
 refine⟨rfl,fun v a=>?_⟩;rcases List.mem_append.1 a with a|a
 ·obtain⟨j,_,rfl⟩:=Cv a;exact WW _ _ _ j
 ·obtain rfl:=List.mem_singleton.1 a;rfl
theorem Eg.below(h:Eg u b l)(f:Below u.heap.size u Q):Eg Q b l:=⟨h.1,h.2.1,h.2.2.below f h.2.2.lt⟩
theorem Eg.kc{m q:Nat}(h:Eg u q l)(f:Kc b m u Q)(a:q≠b)(c:q≠m):Eg Q q l:=⟨h.1,h.2.1,Ak.blk h.2.2 (f.block q h.2.2.lt a c)⟩
theorem Eg.ft{q:Nat}(h:Eg u b l)(f:Ft q u Q)(a:b≠q):Eg Q b l:=⟨h.1,h.2.1,Ak.blk h.2.2 (f.block b h.2.2.lt a)⟩
theorem Eg.new(w:World)(h:l.length=51/\∀v∈l,v.oneCell'=true)(t:TypeId):Eg (w.alloc (.cells l.toArray t)) w.heap.size l:=by
 refine⟨h.1,h.2,AX,fun i=>CP (Az w _) i,fun i a=>?_⟩;have e:l[i]?=some (l.getD i undef):=by rw[KJ,List.getElem?_eq_getElem AB];rfl
 rw[AJ (Az w _) i];simpa using e
theorem Eg.range(h:Eg u b l):u.rangeAt b 0 l:=fun j v a=>by
 have c:j<51:=by rw[<-h.1];exact(List.getElem?_eq_some_iff.1 a).1
 rw[Nat.zero_add,h.2.2.cell c,KJ,a];rfl
theorem Eg.facts{F:FS}{k:Int}(h:Eg u b (eL F k)):BS u b F:=by
 refine⟨h.2.2.lt,h.2.2.free,fun i a=>?_⟩;rw[h.2.2.cell AB];congr 1
 have:(eL F k)[i]?=some (fF F.V F.z F.c i):=by
  unfold eL;rw[List.getElem?_append_left (by rw[Aw];exact a)];simp[first,a]
 rw[KJ,this];rfl
theorem Eg.count{F:FS}{k:Int}(h:Eg u b (eL F k)):u.cell? (Va b 50)=some (Vi k):=h.2.2.cell (i:=50) AB
theorem Eg.store{K:Act->World->Prop}{Q:Exit->Act->World->Prop}(j:TypeId)(x y:Operand)(o:Z.op=.store j x y)(b:Nat)(l r:List Value)(p:a.eval x=Vq b)(A:Array Value)(n:A=l.toArray)(q:a.eval y=.agg A)(k:(Tryz.prog.info? j).map (·.size)=some 51)(c:l.length=51/\∀v∈l,v.oneCell'=true)(m:Eg w b r)
 (h:∀d,Eg d b l->Ft b w d->d.heap.size=w.heap.size->K (a.put Z.dst undef) d):Z.wp Tryz.prog a w K Q:=by
 subst n;have e:(l.toArray).size=51:=by simp[c.1]
 refine wp_store_mid j x y o b 0 l.toArray p q (by rw[e];exact m.2.2.there) (by rw[e];exact k) (all_oneCell_toArray c.2) (h _ ⟨c.1,c.2,?_⟩ (Ft.setsC _ _ (Ft.refl _ _)) (size_setCells ..));refine(m.2.2.setCells 0 l (by rw[c.1];omega)).congr (fun i k=>?_);rw[if_pos AB];rfl
theorem QD{R:Array Oper}{k:List Oper}{Q:Exit->Act->World->Prop}(d:Z.guard=none)(e:TypeId)(x y:Operand)(u:Z.op=.store e x y)(b:Nat)(l j:List Value)(B:a.eval x=Vq b)(A:Array Value)(p:A=l.toArray)(C:a.eval y=.agg A)(r:(Tryz.prog.info? e).map (·.size)=some 51)(s:l.length=51/\∀v∈l,v.oneCell'=true)(z:Eg w b j)
 (h:∀c,Eg c b l->Ft b w c->c.heap.size=w.heap.size->wpList Tryz.prog R Q k (a.put Z.dst undef) c):wpList Tryz.prog R Q (Z::k) a w:=
 wpList_plain d fun _ q=>Eg.store e x y u b l j B A p C r s z fun c m n o=>q _ _ (h c m n o)
theorem Qy:(Tryz.prog.info? 240).map (·.size)=some 51:=AV
theorem jN:(Tryz.prog.info? 242).map (·.size)=some 51:=AV
theorem OV(x:Operand)(e:Z.op=.load 240 x)(b:Nat)(h:a.eval x=Vq b)(l:List Value)(A:Array Value)(d:A=l.toArray)(c:Eg w b l):(execOp a.eval Z).run Tryz.prog w=.ok (.value (.agg A)) w:=by
 subst d;exact Dx _ x e b 0 h (run_loadAt_mid w b 0 _ l _ c.range Tryz.underlying240 rfl (by rw[c.1];exact Qy))
end
section
open Go.RowKit
variable {a:Nat}{L:Nat->SV}
def Iw(G:SG)(L:Nat->SV)(p:Nat)(F:FS)(r:Int):CR:=
 if(L p).k=1 then(if GU G (L p) F≠0 then .bad (GU G (L p) F) (p:Int)else .ok (Km G (L p) F) r)
 else cmpL G (L p) (seg L (p+1) (p+1+(L p).thn.toNat)) (seg L (p+1+(L p).thn.toNat) (FV L p)) (p:Int) F r
theorem WC(G:SG)(L:Nat->SV){p u:Nat}(d:p<u)(b:BZ (L p) 0=true)(l:FV L p<=u)(F:FS)(r:Int):ET G (seg L p u) (p:Int) F r=match Iw G L p F r with
 |.inl (e,a)=>.bad e a
 |.inr (B,j)=>ET G (seg L (FV L p) u) (FV L p:Int) B j:=by
 unfold BZ at b;by_cases c:(L p).k=1
 ·rw[if_pos c]at b
  simp only[Bool.and_eq_true,decide_eq_true_eq]at b;have e:FV L p=p+1:=by unfold FV;omega
  rw[IG d,Sb c,Iw,if_pos c,e];by_cases h:GU G (L p) F≠0
  ·rw[if_pos h,if_pos h]
  ·rw[if_neg h,if_neg h]
   rfl
 ·have m:0<=(L p).thn/\0<=(L p).els:=by
   rw[if_neg c]at b;split at b
   ·simp only[decide_eq_true_eq]at b;omega
   split at b
   ·simp only[decide_eq_true_eq]at b;omega
   split at b
   ·simp only[decide_eq_true_eq]at b;omega
   ·cases b
  have e:seg L p u=L p::(seg L (p+1) (p+1+(L p).thn.toNat)++seg L (p+1+(L p).thn.toNat) (FV L p)++seg L (FV L p) u):=by
   rw[IG d,<-NZ AB (by unfold FV;omega),<-NZ (by unfold FV;omega) l]
  rw[e,Nz c (by rw[FH];omega) (by rw[FH];unfold FV;omega),Iw,if_neg c];cases cmpL G (L p) (seg L (p+1) (p+1+(L p).thn.toNat)) (seg L (p+1+(L p).thn.toNat) (FV L p)) (p:Int) F r with
  |inl q=>obtain⟨e,a⟩:=q;rfl
  |inr q=>
   obtain⟨B,j⟩:=q;dsimp only;rw[show(p:Int)+1+(L p).thn+(L p).els=(FV L p:Int)by unfold FV;omega]
structure CS(G:SG)(L:Nat->SV)(w0:World)(bC mb bH cH:Nat)(d:Int)(u:World)(r:Int):Prop where
 B:Below w0.heap.size w0 u
 C:u.heap[bC]?=some (.cells #[Vs bH G.nH cH,Vi r,.map (some mb)] 73)
 M:JN G L u mb (r-d)
 H:Ak u bH (G.nH*3) (Ur G.S)
 d0:0<=d
 r0:0<=r
 r1:r<=1000
 c1:w0.heap.size<=bC
 c2:w0.heap.size<=mb
 ne:bC≠mb
 hb:bH<w0.heap.size
section
variable{G:SG}{L:Nat->SV}{w0:World}{bC mb bH cH:Nat}{d:Int}{u u':World}{r:Int}
theorem CS.lt(h:CS G L w0 bC mb bH cH d u r):bC<u.heap.size:=(I8.1 h.C).1
theorem CS.below(h:CS G L w0 bC mb bH cH d u r)(f:Below u.heap.size u u'):CS G L w0 bC mb bH cH d u' r:=
 ⟨h.B.trans (f.mono h.B.size),(f.block bC h.lt).trans h.C,h.M.kept (f.block mb h.M.lt),h.H.below f h.H.lt,h.d0,h.r0,h.r1,h.c1,h.c2,h.ne,h.hb⟩
theorem CS.ft{q:Nat}(h:CS G L w0 bC mb bH cH d u r)(f:Ft q u u')(a:q≠bC)(b:q≠mb)(c:w0.heap.size<=q):CS G L w0 bC mb bH cH d u' r:=
 ⟨h.B.trans ⟨f.os,f.tape,f.output,f.size,fun k e=>f.block k (by have:=h.B.size;omega) AB⟩,(f.block bC h.lt (Ne.symm a)).trans h.C,h.M.kept (f.block mb h.M.lt (Ne.symm b)),Ak.blk h.H (f.block bH h.H.lt (by have:=h.hb;omega)),h.d0,h.r0,h.r1,h.c1,h.c2,h.ne,h.hb⟩
theorem CS.cells(h:CS G L w0 bC mb bH cH d u r):u.cell? (Va bC 0)=some (Vs bH G.nH cH)/\u.cell? (Va bC 1)=some (Vi r)/\u.cell? (Va bC 2)=some (.map (some mb))/\bC<u.heap.size/\∀i,u.frozen? (Va bC i)=false:=
 ⟨(AJ h.C 0).trans rfl,(AJ h.C 1).trans rfl,(AJ h.C 2).trans rfl,h.lt,CP h.C⟩
theorem CS.count(h:CS G L w0 bC mb bH cH d u r){e:Int}(b:r<=e)(a:e<=1000):CS G L w0 bC mb bH cH d (u.setCell (Va bC 1) (Vi e)) e:=by
 have f:Ft bC u (u.setCell (Va bC 1) (Vi e)):=(Ft.refl _ _).set _ _;exact⟨h.B.trans ⟨f.os,f.tape,f.output,f.size,fun k c=>f.block k (by have:=h.B.size;omega) (by have:=h.c1;omega)⟩,BG h.C 1 _,(h.M.kept (f.block mb h.M.lt (Ne.symm h.ne))).mono AB,Ak.blk h.H (f.block bH h.H.lt (by have:=h.hb;have:=h.c1;omega)),h.d0,by have:=h.r0;omega,a,h.c1,h.c2,h.ne,h.hb⟩
theorem CS.begin(h:CS G L w0 bC mb bH cH d u r)(b:r<1000):CS G L w0 bC mb bH cH (d+1) (u.setCell (Va bC 1) (Vi (r+1))) (r+1):=by
 have f:Ft bC u (u.setCell (Va bC 1) (Vi (r+1))):=(Ft.refl _ _).set _ _;have a:=h.d0;have e:=h.r0;exact⟨h.B.trans ⟨f.os,f.tape,f.output,f.size,fun k c=>f.block k (by have:=h.B.size;omega) (by have:=h.c1;omega)⟩,BG h.C 1 _,(h.M.kept (f.block mb h.M.lt (Ne.symm h.ne))).mono AB,Ak.blk h.H (f.block bH h.H.lt (by have:=h.hb;have:=h.c1;omega)),AB,AB,AB,h.c1,h.c2,h.ne,h.hb⟩
end
def NS(G:SG)(L:Nat->SV)(w0:World)(bC mb bH cH:Nat)(d:Int)(R:CR)(u:World)(e:Ending)(u':World):Prop:=
 Kc bC mb u u'/\((∃B r',R=.ok B r'/\JD G B/\e=.returned (.tuple #[.agg (fA B),.nilIface])/\CS G L w0 bC mb bH cH d u' r')∨∃err at' v,R=.bad err at'/\Fg v err at'/\e=.returned (.tuple #[.agg (fA DC),v]))
def Kq(G:SG)(L:Nat->SV)(w0:World)(bC mb bH cH i te:Nat)(tv:Value):Prop:=
 ∀(d:Int)(u:World)(F:FS)(FA:Array Value)(r:Int),FA=fA F->CS G L w0 bC mb bH cH d u r->JD G F->Ks 25 #[Vq bC,tv,.agg FA] u (NS G L w0 bC mb bH cH d (ET G (seg L i te) (i:Int) F r) u)
def wZ(G:SG)(L:Nat->SV)(w0:World)(bC mb bH cH p:Nat)(x:Value):Prop:=
 ∀(d:Int)(u:World)(F:FS)(FA:Array Value)(r:Int),FA=fA F->CS G L w0 bC mb bH cH d u r->JD G F->Ks 55 #[Vq bC,x,.agg FA] u (NS G L w0 bC mb bH cH d (Iw G L p F r) u)
theorem l9{G:SG}{F:FS}{FA:Array Value}(hF:FA=fA F){s:SV}(m:BZ s 0=true)(D:s.k=1)(l:Ri G F)(n o:Nat)(w:World)(C:Ak w n (G.nH*3) (Ur G.S)):
 Ks 92 #[.agg FA,.agg #[Vi s.op,Vi s.d,Vi s.a,Vi s.b,Vi s.imm,Vi s.h],Vs n G.nH o] w fun e q=>∃B:FS,e=.returned (.tuple #[.agg (fA B),Vi (GU G s F)])/\(GU G s F=0->B=Km G s F)/\Below w.heap.size w q:=by
 unfold BZ at m;rw[if_pos D]at m;simp only[Bool.and_eq_true,decide_eq_true_eq]at m;have j:s.op<=28:=AB;obtain⟨K,Y,Z,O,Q,R,U,h0,h7,E,I,J⟩:=Gx m.1 j;obtain⟨_,h8,A⟩:=FR l;have p:GU G s F=FL s.op (Jw s.op F.z F.c) (Gi F.V s.op F.z F.c s.a.toNat s.b.toNat) (A8 s.op s.imm s.h (Gl F.V s.op s.a.toNat) (Gb F.V s.op s.b.toNat) (F.V s.d.toNat) (G.S s.h.toNat)):=by
  unfold GU TN;rw[if_pos ⟨l,m.1,j⟩]
 have h:=Xv F.V F.z F.c FA hF s.op s.imm s.d.toNat s.a.toNat s.b.toNat s.h.toNat AB AB AB K j E I J n o G.nH G.S AB A w C;rw[show((s.d.toNat:Nat):Int)=s.d by omega,show((s.a.toNat:Nat):Int)=s.a by omega,show((s.b.toNat:Nat):Int)=s.b by omega,show((s.h.toNat:Nat):Int)=s.h by omega]at h;refine h.mono ?_;rintro e q⟨rfl,y⟩;obtain⟨W,X,r,u,x⟩:=Y4 F.V F.z F.c s.d.toNat (kS s.op s.imm (Gl F.V s.op s.a.toNat) (Gb F.V s.op s.b.toNat) (Gi F.V s.op F.z F.c s.a.toNat s.b.toNat) (Jw s.op F.z F.c) (G.S s.h.toNat)) (FL s.op (Jw s.op F.z F.c) (Gi F.V s.op F.z F.c s.a.toNat s.b.toNat) (A8 s.op s.imm s.h (Gl F.V s.op s.a.toNat) (Gb F.V s.op s.b.toNat) (F.V s.d.toNat) (G.S s.h.toNat))) (Ik s.op) (Fj s.op) (Gi F.V s.op F.z F.c s.a.toNat s.b.toNat);refine⟨⟨W,X,r⟩,by rw[u,p];rfl,fun e=>?_,y⟩;obtain⟨L,M,N⟩:=x (p.symm.trans e);unfold Km;rw[L,M,N];rfl
theorem sD(u:World){F:FS}{h:Array Value}(hF:h=fA F)(o:Obj):∃y,((u.alloc (.cells h 76)).alloc (.cells (CX (fun _=>zV) 0 0) 76)).alloc o=y/\Below u.heap.size u y/\BS y u.heap.size F/\BS y (u.heap.size+1) DC/\y.heap[u.heap.size+1+1]?=some o:=by
 have m:=BS.new u hF;have j:=(Below.refl u.heap.size u).alloc BQ (.cells h 76);generalize k:u.alloc (.cells h 76)=x at *;have e:x.heap.size=u.heap.size+1:=by rw[<-k];simp
 have c:=BS.new x (FA:=CX (fun _=>zV) 0 0) (F:=DC) rfl;have b:=(Below.refl x.heap.size x).alloc BQ (.cells (CX (fun _=>zV) 0 0) 76);generalize l:x.alloc (.cells (CX (fun _=>zV) 0 0) 76)=y at *;have n:y.heap.size=u.heap.size+1+1:=by rw[<-l];simp[e]
 have d:=Az y o;have a:=(Below.refl y.heap.size y).alloc BQ o;rw[e]at c;rw[n]at d;exact⟨_,rfl,(j.trans (b.mono AB)).trans (a.mono AB),(m.below b).below a,c.below a,d⟩
theorem xw(u:World){F:FS}{h:Array Value}(hF:h=fA F)(o:Obj):∃y,((u.alloc o).alloc (.cells h 76)).alloc (.cells (CX (fun _=>zV) 0 0) 76)=y/\Below u.heap.size u y/\y.heap[u.heap.size]?=some o/\BS y (u.heap.size+1) F/\BS y (u.heap.size+1+1) DC:=by
 have n:=Az u o;have j:=(Below.refl u.heap.size u).alloc BQ o;generalize l:u.alloc o=x at *;have e:x.heap.size=u.heap.size+1:=by rw[<-l];simp
 have c:=BS.new x hF;have b:=(Below.refl x.heap.size x).alloc BQ (.cells h 76);generalize m:x.alloc (.cells h 76)=y at *;have p:y.heap.size=u.heap.size+1+1:=by rw[<-m];simp[e]
 have d:=BS.new y (FA:=CX (fun _=>zV) 0 0) (F:=DC) rfl;have a:=(Below.refl y.heap.size y).alloc BQ (.cells (CX (fun _=>zV) 0 0) 76);rw[e]at c;rw[p]at d;have k:u.heap.size<x.heap.size:=AB;exact⟨_,rfl,(j.trans (b.mono AB)).trans (a.mono AB),(a.block _ AB).trans ((b.block _ k).trans n),c.below a,d⟩
theorem BS.fresh(u:World):BS (u.alloc (.cells (CX (fun _=>zV) 0 0) 76)) u.heap.size DC:=BS.new u rfl
def wS:NV:=⟨0,0,0,0,0,0⟩
def yF(x:NV):Nat->Int
 |0=>x.op
 |1=>x.d
 |2=>x.a
 |3=>x.b
 |4=>x.imm
 |_=>x.h
def MW(xs:List NV)(i j:Nat):Int:=yF (xs.getD i wS) j
theorem nS(b:List NV):∀p,p<b.length*6->(ci b)[p]?=some (Kt (MW b) p):=by
 induction b with
 |nil=>intro p h;simp at h
 |cons a l e=>
  intro p h;show(uf a++ci l)[p]?=_;by_cases c:p<6
  ·rw[List.getElem?_append_left (by show p<6;exact c)]
   unfold Kt MW;rw[show p/6=0 by omega,show p%6=p by omega];match p,c with
   |0,_=>rfl
   |1,_=>rfl
   |2,_=>rfl
   |3,_=>rfl
   |4,_=>rfl
   |5,_=>rfl
  ·rw[List.getElem?_append_right (by show 6<=p;omega)]
   show(ci l)[p-6]?=_;rw[e (p-6) (by simp at h;omega)];unfold Kt MW;rw[show(p-6)/6=p/6-1 by omega,show(p-6)%6=p%6 by omega];obtain⟨q,d⟩:∃q,p/6=q+1:=⟨p/6-1,AB⟩
   rw[d];rfl
def wN(m:Nat)(y:NV):Prop:=BF y.op y.d y.a y.b y.imm y.h=true/\(EH y.op=true->y.imm<=(m:Int))
theorem LF{Z:Int}{t m:Nat}(a:Z=29∨Z=30∨Z=31∨Z=32∨Z=33)(d:t<=m)(c:m<=1999):wN m (BP Z (t:Int)):=by
 refine⟨?_,fun _=>by show(t:Int)<=m;omega⟩;have b:EM (t:Int) 0 1999=true:=by unfold EM;simp;omega
 show BF Z 0 0 0 (t:Int) 0=true;rcases a with rfl|rfl|rfl|rfl|rfl<;>(unfold BF;rw[show∀k,Ap k 8=Ap k 8 from fun _=>rfl];simp only[show Ap 29 8=true by kernel_rfl,show Ap 30 8=true by kernel_rfl,show Ap 31 8=true by kernel_rfl,show Ap 32 8=true by kernel_rfl,show Ap 33 8=true by kernel_rfl,show Ap 29 1=false by kernel_rfl,show Ap 30 1=false by kernel_rfl,show Ap 31 1=false by kernel_rfl,show Ap 32 1=false by kernel_rfl,show Ap 33 1=false by kernel_rfl,show Ap 29 2=false by kernel_rfl,show Ap 30 2=false by kernel_rfl,show Ap 31 2=false by kernel_rfl,show Ap 32 2=false by kernel_rfl,show Ap 33 2=false by kernel_rfl,show Ap 29 4=false by kernel_rfl,show Ap 30 4=false by kernel_rfl,show Ap 31 4=false by kernel_rfl,show Ap 32 4=false by kernel_rfl,show Ap 33 4=false by kernel_rfl,show Ap 29 16=false by kernel_rfl,show Ap 30 16=false by kernel_rfl,show Ap 31 16=false by kernel_rfl,show Ap 32 16=false by kernel_rfl,show Ap 33 16=false by kernel_rfl,Dc,DF,DL];simp;simp[EM];omega)
theorem XV(c:Int):CZ c=29∨CZ c=30∨CZ c=31∨CZ c=32∨CZ c=33:=by unfold CZ;(repeat' split)<;>omega
theorem WM{s:SV}(h:BZ s 0=true):s.k=1∨s.k=2∨s.k=3:=by
 unfold BZ at h;by_cases a:s.k=1
 ·exact .inl a
 by_cases b:s.k=2
 ·exact .inr (.inl b)
 by_cases c:s.k=3
 ·exact .inr (.inr c)
 rw[if_neg a,if_neg b,if_neg c]at h;split at h
 ·have:=of_decide_eq_true h;omega
 ·cases h
theorem uP:∀(m c i e:Nat)(b:Int),e-i<=m->(DU L 0 0 321 i e b).1=0->∀T:Nat,c+(CF L c i e).length<=T->T<=1999->∀y∈CF L c i e,wN T y:=by
 intro m;induction m with
 |zero=>intro c i e b D _ T _ _ y a;rw[IJ AB]at a;cases a
 |succ m o=>
  intro c i e b D C T l d y a;by_cases h:i<e
  rotate_left
  ·rw[IJ h]at a;cases a
  obtain⟨p,r,u,A,q⟩:=FX C h;obtain⟨x,n⟩:=Au (CF L (c+1) (i+1) (i+1+(L i).thn.toNat));rcases WM p with k|k|k
  ·rw[Rk h r k]at a l
   simp only[List.length_cons]at l;rcases List.mem_cons.1 a with rfl|a
   ·obtain⟨B,E⟩:=fM p k
    exact⟨B,fun j=>by unfold EH at j;simp only[Bool.and_eq_true,decide_eq_true_eq]at j;have:(IX (L i)).op=(L i).op:=rfl;omega⟩
   ·exact o (c+1) _ e b AB q T AB d y a
  ·obtain⟨z,s⟩:=Au (CF L (c+2+x.length) (i+1+(L i).thn.toNat) (i+1+(L i).thn.toNat+(L i).els.toNat))
   rw[OG h r k n s]at a l;simp only[List.length_cons,List.length_append]at l;rcases List.mem_cons.1 a with rfl|a
   ·exact LF (XV _) AB d
   rcases List.mem_append.1 a with a|a
   ·exact o (c+1) (i+1) _ _ AB u T (by rw[n];omega) d y (by rw[n];exact a)
   rcases List.mem_cons.1 a with rfl|a
   ·exact LF (Or.inl rfl) AB d
   rcases List.mem_append.1 a with a|a
   ·exact o _ _ _ _ AB A T (by rw[s];omega) d y (by rw[s];exact a)
   ·exact o _ _ e b AB q T AB d y a
  ·rw[PX h r k n]at a l
   simp only[List.length_cons,List.length_append]at l;rcases List.mem_cons.1 a with rfl|a
   ·exact LF (XV _) AB d
   rcases List.mem_append.1 a with a|a
   ·exact o (c+1) (i+1) _ _ AB u T (by rw[n];omega) d y (by rw[n];exact a)
   rcases List.mem_cons.1 a with rfl|a
   ·exact LF (Or.inl rfl) AB d
   ·exact o _ _ e b AB q T AB d y a
theorem Ni{n:Nat}(h:Hq L n):Bb L n=CF L 0 0 n++[BP 34 0]/\(CF L 0 0 n).length<=1999:=by
 have a:=UW (L:=L) (Z:=fun _=>0) (fun _=>Int.le_refl _) n 0 0 n AB AB;have b:=h.2.2;rw[show Cs L (fun _=>0) 0=0 from rfl]at a;exact⟨by unfold Bb;rw[if_pos h],AB⟩
theorem Uf{n:Nat}(h:Hq L n):EW (Bb L n).length (MW (Bb L n))=true:=by
 obtain⟨l,e⟩:=Ni h;have k:=uP n 0 0 n 0 AB h.2.1 (CF L 0 0 n).length AB e;rw[l];generalize CF L 0 0 n=a at e k;have b:(a++[BP 34 0]).length=a.length+1:=AX;rw[UR AB AB (fun i m=>?_),b,Nat.add_sub_cancel]
 ·show(yF ((a++[BP 34 0]).getD a.length wS) 0==34)=true
  rw[KJ,List.getElem?_append_right BQ,Nat.sub_self];rfl
 ·show(BF _ _ _ _ _ _&&_)=true
  by_cases c:i<a.length
  ·have d:(a++[BP 34 0]).getD i wS=a[i]:=by
    rw[KJ,List.getElem?_append_left c,List.getElem?_eq_getElem c];rfl
   have j:=k a[i] (List.getElem_mem c);unfold MW;rw[d,b];simp only[yF];rw[j.1];cases hj:EH a[i].op with
   |false=>rfl
   |true=>
    have:=j.2 hj;simp;omega
  ·have d:(a++[BP 34 0]).getD i wS=BP 34 0:=by
    rw[KJ,List.getElem?_append_right AB,show i-a.length=0 by omega];rfl
   unfold MW;rw[d];rfl
section
variable{P:List NV}{q:Nat}{M:MV}
abbrev uH(P:List NV)(M:MV):MV:=stepM P.length (MW P) M
abbrev Dw(P:List NV)(k:Nat)(M:MV):MV:=MQ P.length (MW P) k M
theorem Sr{y:NV}(c:P[q]?=some y):uH P (M.at q)=Jb (exec y.op.toNat y.d.toNat y.a.toNat y.b.toNat y.h.toNat y.imm (M.at q) (q+1)):=by
 have e:P.getD q wS=y:=by rw[KJ,c];rfl
 have j:=(List.getElem?_eq_some_iff.1 c).1;unfold uH;rw[Oi _ _ _ (by show¬(P.length:Int)<=q;omega)];show Jb (exec (MW P (q:Int).toNat 0).toNat (MW P (q:Int).toNat 1).toNat (MW P (q:Int).toNat 2).toNat (MW P (q:Int).toNat 3).toNat (MW P (q:Int).toNat 5).toNat (MW P (q:Int).toNat 4) (M.at q) (q+1))=_;unfold MW;rw[Int.toNat_natCast,e];rfl
theorem vZ{c t:Int}(b:P[q]?=some (BP (CZ c) t))(d:1<=c)(e:c<=4):∃x,uH P (M.at q)=(Ig c M).at x/\(VD c M=true->x=if TV c M then(q:Int)+1 else t):=by
 rw[Sr b];have a:c=1∨c=2∨c=3∨c=4:=AB;rcases a with rfl|rfl|rfl|rfl
 ·show∃x,Jb (Da M.hz M.z false t (M.at q) (q+1))=(if M.hz=true then M.see 2 (if(M.z==true)=true then 0 else 1)else M.fault).at x/\(M.hz=true->x=if(M.z==true)=true then(q:Int)+1 else t)
  cases M.hz<;>cases M.z<;>first|exact⟨_,rfl,AX⟩|exact⟨_,rfl,fun _=>rfl⟩
 ·show∃x,Jb (Da M.hz M.z true t (M.at q) (q+1))=(if M.hz=true then M.see 2 (if(M.z==false)=true then 0 else 1)else M.fault).at x/\(M.hz=true->x=if(M.z==false)=true then(q:Int)+1 else t)
  cases M.hz<;>cases M.z<;>first|exact⟨_,rfl,AX⟩|exact⟨_,rfl,fun _=>rfl⟩
 ·show∃x,Jb (Da M.hc M.c false t (M.at q) (q+1))=(if M.hc=true then M.see 2 (if(M.c==true)=true then 0 else 1)else M.fault).at x/\(M.hc=true->x=if(M.c==true)=true then(q:Int)+1 else t)
  cases M.hc<;>cases M.c<;>first|exact⟨_,rfl,AX⟩|exact⟨_,rfl,fun _=>rfl⟩
 ·show∃x,Jb (Da M.hc M.c true t (M.at q) (q+1))=(if M.hc=true then M.see 2 (if(M.c==false)=true then 0 else 1)else M.fault).at x/\(M.hc=true->x=if(M.c==false)=true then(q:Int)+1 else t)
  cases M.hc<;>cases M.c<;>first|exact⟨_,rfl,AX⟩|exact⟨_,rfl,fun _=>rfl⟩
theorem stepJ{t:Int}(a:P[q]?=some (BP 29 t)):uH P (M.at q)=M.at t:=by rw[Sr a];rfl
theorem I5{k:Nat}(h:M.st=0):Dw P (k+1) M=Dw P k (uH P M):=Qq _ _ k h
def Loc(P:List NV)(a:Nat)(X:List NV):Prop:=∀j,j<X.length->P[a+j]?=X[j]?
theorem Loc.head{y:NV}{X:List NV}(h:Loc P a (y::X)):P[a]?=some y:=h 0 (Nat.succ_pos _)
theorem Loc.tail{y:NV}{X:List NV}(h:Loc P a (y::X)):Loc P (a+1) X:=fun j b=>by
 have:=h (j+1) (Nat.succ_lt_succ b);rw[show a+1+j=a+(j+1)by omega,this];rfl
theorem Loc.left{X Y:List NV}(h:Loc P a (X++Y)):Loc P a X:=fun j b=>by
 rw[h j (by simp;omega),List.getElem?_append_left b]
theorem Loc.right{b:Nat}{X Y:List NV}(h:Loc P a (X++Y))(e:b=a+X.length):Loc P b Y:=fun j c=>by
 subst e;rw[Nat.add_assoc,h _ (by simp;omega),List.getElem?_append_right AB,Nat.add_sub_cancel_left]
end
section
variable{L:Nat->SV}{fu:Int}{P:List NV}
theorem Qi(M:MV)(x:Int):(M.at x).st=M.st:=rfl
end
end
end Go.Proofs.YtcjnmdgomocpgaaGreatDoor
