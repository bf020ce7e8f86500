import Derived.Test.YtcjnmdgomocpgaaGreatDoorSnSlow
import Derived.Test.YtcjnmdgomocpgaaGreatDoorFtSpoil
set_option maxHeartbeats 16000000
set_option maxRecDepth 20000
namespace Go.Proofs.YtcjnmdgomocpgaaGreatDoor
open Go.RowKit Go.Deep
def jR:Array Value:=#[.slice none 0 0,.slice none 0 0]
def mH(bH cH nH bR cR nR:Nat):Array Value:=#[Vs bH nH cH,Vs bR nR cR]
structure DK(w:World)(p:Nat)(ao:Option Addr)(n cap r qs bH cH nH:Nat)(S:Nat->HS)(bR cR nR:Nat)(V0:Nat->VV)(B g cg:Nat)(xs:List SV)(u:World):Prop where
 K:CJ u p ao n cap
 bel:Below w.heap.size w u
 Z2:u.heap[r]?=some (.cells jR 26)
 QS:u.heap[qs]?=some (.cells (mH bH cH nH bR cR nR) 26)
 G:Ck u bH nH S bR nR V0
 R:VR u B g cg xs
 l:xs.length<=9330
 o1:w.heap.size<=r
 o2:r<p
 o3:p<bH
 o4:p<bR
 o5:bH≠bR
 o6:bH<qs
 o7:bR<qs
 o8:qs<B
section
variable{w:World}{p:Nat}{ao:Option Addr}{n cap r qs bH cH nH:Nat}{S:Nat->HS}{bR cR nR:Nat}{V0:Nat->VV}{B g cg:Nat}{xs:List SV}{u u':World}
theorem mD{q:Nat}{o:Obj}(h:u.heap[q]?=some o)(f:Fw p u u')(a:q≠p):u'.heap[q]?=some o:=(f.block q (Bp h) a).trans h
theorem DK.fw(h:DK w p ao n cap r qs bH cH nH S bR cR nR V0 B g cg xs u)(f:Fw p u u')(k:CJ u' p ao n cap):DK w p ao n cap r qs bH cH nH S bR cR nR V0 B g cg xs u':=by
 have a:=h.o1;have b:=h.o2;have c:=h.o3;have d:=h.o4;have e:=h.o6;have j:=h.o8;exact⟨k,f.below h.bel AB h.bel.size,mD h.Z2 f AB,mD h.QS f AB,⟨f.arr h.G.h AB,f.arr h.G.r AB⟩,Eb h.R f AB,h.l,a,b,c,d,h.o5,e,h.o7,j⟩
theorem DK.re(h:DK w p ao n cap r qs bH cH nH S bR cR nR V0 B g cg xs u){e:Ending}(k:yj 9330 u p ao n cap e u'):∃d b j l,e=.returned (Vs d j.length b)/\DK w p ao n cap r qs bH cH nH S bR cR nR V0 l d b j u':=by
 obtain⟨d,b,j,rfl,m,o,f,c⟩:=k;have a:=h.fw f c;exact⟨d,b,j,u.heap.size,rfl,a.K,a.bel,a.Z2,a.QS,a.G,o,m,a.o1,a.o2,a.o3,a.o4,a.o5,a.o6,a.o7,Bp h.QS⟩
theorem DK.f3(h:DK w p ao n cap r qs bH cH nH S bR cR nR V0 B g cg xs u)(f:F3 p bH bR u u')(k:CJ u' p ao n cap){S':Nat->HS}{nR':Nat}{V0':Nat->VV}(y:Ck u' bH nH S' bR nR' V0'):DK w p ao n cap r qs bH cH nH S' bR cR nR' V0' B g cg xs ((u'.setCell (Va qs 0) (Vs bH nH cH)).setCell (Va qs 1) (Vs bR nR' cR)):=by
 have J:=h.o1;have K:=h.o2;have L:=h.o3;have M:=h.o4;have N:=h.o6;have O:=h.o7;have Q:=h.o8;have b:∀{i:Nat}{o:Obj},u.heap[i]?=some o->i≠p->i≠bH->i≠bR->u'.heap[i]?=some o:=fun e s d x=>(f.block _ (Bp e) s d x).trans e
 have z:∀{i:Nat}{o:Obj},u'.heap[i]?=some o->i≠qs->((u'.setCell (Va qs 0) (Vs bH nH cH)).setCell (Va qs 1) (Vs bR nR' cR)).heap[i]?=some o:=fun e C=>Ao (Ao e C _ _) C _ _
 have F:Bw w u':=by
  refine⟨f.os.trans h.bel.os,f.tape.trans h.bel.tape,f.output.trans h.bel.output,Nat.le_trans h.bel.size f.size,fun i A=>?_⟩;exact(f.block i (Ey A h.bel.size) AB AB AB).trans (h.bel.block i A)
 have I:VR u' B g cg xs:=by
  refine⟨h.R.1,?_⟩;rcases h.R.2 with m|⟨E,c,j,m,s,d,x⟩
  ·exact Or.inl m
  ·exact Or.inr ⟨E,c,j,m,s,(f.block _ (I8.1 d).1 AB AB AB).trans d,x⟩
 have U:=Hz h.R (q:=g) rfl;have D:(Vs g xs.length cg).ownBlock≠some qs:=by simp[Value.ownBlock];omega
 exact⟨(k.put AB _ _).put AB _ _,(F.setCell (p:=Va qs 0) (show w.heap.size<=qs by omega) _).setCell (p:=Va qs 1) (show w.heap.size<=qs by omega) _,z (b h.Z2 AB AB AB) AB,(BG (BG (b h.QS AB AB AB) 0 _) 1 _).trans rfl,⟨(y.h.other (a:=Va qs 0) (show qs≠bH by omega) _).other (a:=Va qs 1) (show qs≠bH by omega) _,(y.r.other (a:=Va qs 0) (show qs≠bR by omega) _).other (a:=Va qs 1) (show qs≠bR by omega) _⟩,CV (CV I D _ _) D _ _,h.l,J,K,L,M,h.o5,N,O,Q⟩
theorem DK.cs(h:DK w p ao n cap r qs bH cH nH S bR cR nR V0 B g cg xs u):u.cell? (Va qs 0)=some (Vs bH nH cH)/\u.cell? (Va qs 1)=some (Vs bR nR cR)/\(∀i,u.frozen? (Va qs i)=false)/\qs<u.heap.size:=⟨(AJ h.QS 0).trans rfl,(AJ h.QS 1).trans rfl,CP h.QS,Bp h.QS⟩
end
def mM(w:World)(e:Ending)(w':World):Prop:=
 ∃(bH cH nH:Nat)(S:Nat->HS)(bR cR nR:Nat)(V0:Nat->VV)(g cg:Nat)(xs:List SV),e=.returned (.tuple #[.agg #[Vs bH nH cH,Vs bR nR cR],Vs g xs.length cg])/\1<=nH/\nH<=4/\nR<=8/\Ck w' bH nH S bR nR V0/\xs.length<=9330/\VR w' w.heap.size g cg xs/\Below w.heap.size w w'
theorem LW(s:Option Addr)(n c:Nat)(w:World)(hn:n<=1048576)(hr:I9 w w.heap.size s n):
 Ks 4 #[.slice s n c] w (mM w):=by
 have HR:=hxy hr;clear hr;go_enter Tryz.func4,Tryz.ntmps4;go_upto_region 1 with fail;obtain⟨u0,ah,b0,z2⟩:∃y,w.alloc (.cells #[.slice none 0 0,.slice none 0 0] 26)=y/\Bw w y/\y.heap[w.heap.size]?=some (.cells jR 26):=⟨_,rfl,Ai,Az _ _⟩
 rw[ah];obtain⟨r,ag⟩:=Au w.heap.size;have ap:w.heap.size<=r:=AB;have ad:I9 u0 u0.heap.size s n:=by
  rcases HR.out with h|⟨b,ak,h1,I,h3⟩
  ·exact .inl h
  ·exact .inr ⟨b,ak,h1,Ey I b0.size,fun i hi=>by obtain⟨v,q1,q2,D⟩:=h3 i hi;exact⟨v,q1,q2,(b0.cell (p:=Va b (ak+i)) I).trans D⟩⟩
 have ab:=hxy ad;have B0:=hxy b0;rw[ag]at z2⊢;have Z0:=hxy z2;have zl:r<u0.heap.size:=Bp z2;clear ah b0 z2 ad ag HR;go_wp2_with fail;refine(YT s n c u0 AB ab).mono ?_;rintro e u1⟨p,rfl,hp,b1,c1⟩;have B1:=hxy (B0.trans (b1.mono B0.size));have Z1:=hxy (Ac Z0 b1);have C1:=hxy c1;have rp:r<p:=AB;have aw:p<u1.heap.size:=c1.lt;have am:w.heap.size<=u1.heap.size:=B1.size;clear b1 c1 Z0 B0 ab;go_wp2_with fail;refine(Po p s n c u1 C1).mono ?_;rintro e u2⟨j,u,z,S,m,x,E,rfl,n1,n4,g2,al,gH,gR,f2,c2,ae,af⟩;have F2:=hxy f2;have C2:=hxy c2;have G2:=hxy g2;have ac:=hxy al;clear f2 c2 g2 al;go_upto_region 3 with fail;obtain⟨u3,ai,b3,D⟩:∃y,u2.alloc (.cells #[Vs j z u,Vs m 8 x] 26)=y/\Bw u2 y/\y.heap[u2.heap.size]?=some (.cells #[Vs j z u,Vs m 8 x] 26):=⟨_,rfl,Ai,Az _ _⟩
 rw[ai];have X:j<u2.heap.size:=G2.h.lt;have Y:m<u2.heap.size:=G2.r.lt;have aa:Hid (Fw p u1 u3):=F2.trans (.of_below b3);have C3:=hxy (C2.below b3);have G3:=hxy (G2.below b3);obtain⟨L,U⟩:=Au u2.heap.size;rw[U]at D X Y;rw[U];have Q3:=hxy D;have aj:L<u3.heap.size:=Bp D;have x0:=(AJ D 0).trans rfl;have x1:=(AJ D 1).trans rfl;clear ai b3 D U F2 C2 G2;go_wp2_with fail;refine(NT p s n c j u z S m x E u3 C3 G3 ac AB AB).mono ?_;rintro e u4⟨g,F,M,rfl,av,J,f4,c4⟩;have F4:=aa.trans f4;have D4:Hid (DK w p s n c r L j u z S m x 8 E u3.heap.size g F M u4):=⟨c4,F4.below B1 AB am,mD Z1 F4 AB,mD Q3 f4 AB,⟨f4.arr G3.h AB,f4.arr G3.r AB⟩,J,AB,ap,rp,AB,AB,af,X,Y,aj⟩
 clear f4 c4 J aa C3 G3 Q3 x0 x1 F4 B1 Z1 C1 av aw am zl gH gR aj X Y ac hp;generalize u3.heap.size=BB at D4;go_wp2_with fail;refine(Af p s n c 10 _ AB D4.K).mono ?_;rintro e u5⟨k,rfl,k0,k1,f,kk⟩;have N:=hxy (D4.fw f kk);clear f kk D4;obtain⟨t0,ar⟩:∃b:Bool,decide (k<4)=b:=⟨_,rfl⟩
 obtain⟨t1,au⟩:∃b:Bool,(k==4)=b:=⟨_,rfl⟩
 clear k0 k1;go_upto_if 18 with fail;go_cut [6](fun s6 wx=>∃B g F M,s6=Vs g M.length F/\DK w p s n c r L j u z S m x 8 E B g F M wx)
 case first=>
  cases t0 with
  |false=>
   go_wp2_with fail;go_meet;exact⟨_,_,_,_,rfl,N⟩
  |true=>
   go_wp2_with fail;refine(QB p s n c g F M BB _ N.K N.R N.l).mono ?_;rintro e u6 h;obtain⟨g',c',ys,B',rfl,I⟩:=N.re h;have O:=hxy I;clear h I N;go_wp2_with fail;go_meet;exact⟨_,_,_,_,rfl,O⟩
 case rest=>
 clear N;obtain⟨B2,g2,c2,x2,rfl,d6⟩:=hcut;generalize wc=u6 at *;have O:=hxy d6;clear d6;go_upto_if 23 with fail;go_cut [6](fun s6 wx=>∃B g F M,s6=Vs g M.length F/\DK w p s n c r L j u z S m x 8 E B g F M wx)
 case first=>
  cases t1 with
  |false=>
   go_wp2_with fail;go_meet;exact⟨_,_,_,_,rfl,O⟩
  |true=>
   go_wp2_with fail;refine(SA p s n c _ O.K).mono ?_;rintro e u7 h;obtain⟨g',c',ys,B',rfl,I⟩:=O.re h;have D7:=hxy I;clear h I O;go_wp2_with fail;go_meet;exact⟨_,_,_,_,rfl,D7⟩
 case rest=>
 clear O;obtain⟨B3,Z,c3,x3,rfl,d7⟩:=hcut;generalize wc=u7 at *;have D7:=hxy d7;clear d7 ar au;go_wp2_with fail;refine(Ed p s n c 40 _ AB D7.K).mono ?_;rintro e u8⟨b,rfl,f,kk⟩;have o:=hxy (D7.fw f kk);clear f kk D7;go_upto_if 27 with fail;go_cut [](fun wx=>∃S C E,C<=8/\DK w p s n c r L j u z S m x C E B3 Z c3 x3 wx)
 case first=>
  cases b with
  |false=>
   go_wp2_with fail;go_meet;exact⟨S,8,E,BQ,o⟩
  |true=>
   obtain⟨s0,s1,sf,sl⟩:=o.cs;go_wp2_with fail;refine(J4 p s n c j u z S m x E _ o.K o.G n1 n4 ae o.o3 o.o4 o.o5).mono ?_;rintro e u9⟨S',C,an,rfl,Q,g,f,k'⟩;have E9:=hxy (o.f3 f k' g);have A:=(f.block L sl (by have:=o.o3;have:=o.o6;omega) (by have:=o.o6;omega) (by have:=o.o7;omega)).trans o.QS;clear f k' g o s0 s1 sf sl;have s0:u9.cell? (Va L 0)=some (Vs j z u):=AJ A 0;have s1:u9.cell? (Va L 1)=some (Vs m 8 x):=AJ A 1;have sf:=CP A;have sl:=Bp A;clear A;go_wp2_with fail;go_meet;exact⟨S',C,an,Q,E9⟩
 case rest=>
 clear o ae af;obtain⟨S2,C,V2,Q,d9⟩:=hcut;generalize wc=u9 at *;have d:=hxy d9;clear d9;obtain⟨s0,s1,sf,sl⟩:=d.cs;have z0:u9.cell? (Va r 0)=some (.slice none 0 0):=AJ d.Z2 0;have z1:u9.cell? (Va r 1)=some (.slice none 0 0):=AJ d.Z2 1;have zf:=CP d.Z2;have zl:=Bp d.Z2;have HE:Hid (mM w (.returned (.tuple #[.agg #[Vs j z u,Vs m C x],Vs Z x3.length c3])) ((u9.setCell (Va r 0) (Vs j z u)).setCell (Va r 1) (Vs m C x))):=by
  have q1:=d.o1;have q2:=d.o2;have D:=d.o3;have q4:=d.o4;have q6:=d.o6;have q8:=d.o8;have ge:=Hz d.R (q:=Z) rfl;have ne:(Vs Z x3.length c3).ownBlock≠some r:=by simp[Value.ownBlock];omega
  exact⟨j,u,z,S2,m,x,C,V2,Z,c3,x3,rfl,n1,n4,Q,⟨(d.G.h.other (a:=Va r 0) (show r≠j by omega) _).other (a:=Va r 1) (show r≠j by omega) _,(d.G.r.other (a:=Va r 0) (show r≠m by omega) _).other (a:=Va r 1) (show r≠m by omega) _⟩,d.l,ES (CV (CV d.R ne _ _) ne _ _) AB,(d.bel.setCell (p:=Va r 0) q1 _).setCell (p:=Va r 1) q1 _⟩
 clear d;go_wp2;exact mY (.tuple #[.agg #[Vs j z u,Vs m C x],Vs Z x3.length c3]) (by simp[results,Tryz.results4,go_sem, *]) HE
end Go.Proofs.YtcjnmdgomocpgaaGreatDoor
