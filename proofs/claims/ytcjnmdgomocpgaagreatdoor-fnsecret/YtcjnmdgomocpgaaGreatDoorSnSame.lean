import Derived.Test.YtcjnmdgomocpgaaGreatDoorOfSnPub
set_option maxHeartbeats 8000000
set_option maxRecDepth 20000
namespace Go.Proofs.YtcjnmdgomocpgaaGreatDoor
open Go.RowKit
variable {b:Nat}{u:World}
structure lU(nH:Nat)(S:Nat->HS)(V:Nat->VV):Prop where
 n1:1<=nH
 n4:nH<=4
 ok:Db nH S 8 V=true
 gv:∀i,i<8->GV (V i) nH
 sz:∀i,i<nH->1<=(S i).size/\(S i).size<=4096
abbrev E8(ra:Option Addr)(rc:Nat)(ha:Option Addr)(hc:Nat)(rs:List Int)(hs:List HD):Md:=⟨.slice ra rs.length rc,false,false,false,false,.slice ha hs.length hc,0,0,.slice none 0 0,rs,hs,[]⟩
theorem Gn(n r l:Nat)(S:Nat->HS)(o s:Nat)(V:Nat->VV)(d:Option Addr)(j:Nat)(a:Option Addr)(b:Nat)(k:List Int)(c:List HD)(q:Nat)(w:World)(m:lU l S V)(u:Ck w n l S o 8 V)(p:OH (E8 d j a b k c) l S V)(x:ML q (E8 d j a b k c) w):
 Ks 36 #[.agg #[Vs n l r,Vs o 8 s],.agg #[.slice d 8 j,.bool false,.bool false,.bool false,.bool false,.slice a l b,Vi 0,Vi 0,.slice none 0 0]] w fun e y=>e=.returned (.bool true)/\Below w.heap.size w y:=by
 have h:=SB n r l S o s V d j a b k c q w m.n1 m.n4 m.ok m.gv m.sz u p x;rw[show k.length=8 from p.nr,show c.length=l from p.nh]at h;exact h
theorem Gh(n r l:Nat)(S:Nat->HS)(o s:Nat)(V:Nat->VV)(d:Option Addr)(j:Nat)(a:Option Addr)(b:Nat)(k:List Int)(c:List HD)(q:Nat)(w:World)(m:lU l S V)(u:Ck w n l S o 8 V)(p:OH (E8 d j a b k c) l S V)(x:ML q (E8 d j a b k c) w):
 Ks 33 #[.agg #[Vs n l r,Vs o 8 s],.agg #[.slice d 8 j,.bool false,.bool false,.bool false,.bool false,.slice a l b,Vi 0,Vi 0,.slice none 0 0]] w fun e y=>e=.returned (.bool true)/\Below w.heap.size w y:=by
 have h:=Mf n r l S o s V d j a b k c q w m.n1 m.n4 m.ok m.gv m.sz u p x;rw[show k.length=8 from p.nr,show c.length=l from p.nh]at h;exact h
def JP(u:World)(b:Nat)(a0 a1 a2 a3 a4 a5 a6 a7 a8:Value):World:=((((((((u.setCell (Va b 0) a0).setCell (Va b 1) a1).setCell (Va b 2) a2).setCell (Va b 3) a3).setCell (Va b 4) a4).setCell (Va b 5) a5).setCell (Va b 6) a6).setCell (Va b 7) a7).setCell (Va b 8) a8
theorem CY{P:World->Prop}(h:P u)(k:∀w j v,P w->P (w.setCell (Va b j) v))(a c d e l m n o p:Value):P (JP u b a c d e l m n o p):=k _ _ _ (k _ _ _ (k _ _ _ (k _ _ _ (k _ _ _ (k _ _ _ (k _ _ _ (k _ _ _ (k _ _ _ h))))))))
theorem Lv{t:Nat}{a Q p x3 x4 n I J r:Value}(h:u.heap[b]?=some (.cells #[a,Q,p,x3,x4,n,I,J,r] t))(c d e j l m o q s:Value):(JP u b c d e j l m o q s).heap[b]?=some (.cells #[c,d,e,j,l,m,o,q,s] t):=
 by
  have k:=BG (BG (BG (BG (BG (BG (BG (BG (BG h 0 c) 1 d) 2 e) 3 j) 4 l) 5 m) 6 o) 7 q) 8 s;unfold JP;simpa only[List.setIfInBounds_toArray,List.set_cons_zero,List.set_cons_succ]using k
theorem Bq{t:Nat}{a Q p x3 x4 n I J r:Value}(h:u.heap[b]?=some (.cells #[a,Q,p,x3,x4,n,I,J,r] t)):u.cell? (Va b 0)=some a/\u.cell? (Va b 1)=some Q/\u.cell? (Va b 2)=some p/\u.cell? (Va b 3)=some x3/\u.cell? (Va b 4)=some x4/\u.cell? (Va b 5)=some n/\u.cell? (Va b 6)=some I/\u.cell? (Va b 7)=some J/\u.cell? (Va b 8)=some r:=
 ⟨AJ h 0,AJ h 1,AJ h 2,AJ h 3,AJ h 4,AJ h 5,AJ h 6,AJ h 7,AJ h 8⟩
structure Pb(w:World)(bH nH:Nat)(S:Nat->HS)(bR:Nat)(V:Nat->VV)(ra1:Option Addr)(rc1:Nat)(ha1:Option Addr)(hc1:Nat)(rs1:List Int)(hs1:List HD)(B1:Nat)(ra2:Option Addr)(rc2:Nat)(ha2:Option Addr)(hc2:Nat)(rs2:List Int)(hs2:List HD)(B2:Nat):Prop where
 k:lU nH S V
 g:Ck w bH nH S bR 8 V
 f1:OH (E8 ra1 rc1 ha1 hc1 rs1 hs1) nH S V
 f2:OH (E8 ra2 rc2 ha2 hc2 rs2 hs2) nH S V
 l1:ML B1 (E8 ra1 rc1 ha1 hc1 rs1 hs1) w
 l2:ML B2 (E8 ra2 rc2 ha2 hc2 rs2 hs2) w
 r:∀i,i<8->(V i).s=false->rL rs1 i=rL rs2 i
 p:Zm S nH (hL hs1) (hL hs2)
theorem Pb.below{w j:World}{A o:Nat}{S:Nat->HS}{D:Nat}{V:Nat->VV}{ra1:Option Addr}{rc1:Nat}{ha1:Option Addr}{hc1:Nat}{rs1:List Int}{a:List HD}{B1:Nat}{ra2:Option Addr}{rc2:Nat}{ha2:Option Addr}{hc2:Nat}{rs2:List Int}{b:List HD}{B2:Nat}(h:Pb w A o S D V ra1 rc1 ha1 hc1 rs1 a B1 ra2 rc2 ha2 hc2 rs2 b B2)(c:Below w.heap.size w j):Pb j A o S D V ra1 rc1 ha1 hc1 rs1 a B1 ra2 rc2 ha2 hc2 rs2 b B2:=
 ⟨h.k,h.g.below c,h.f1,h.f2,h.l1.below c,h.l2.below c,h.r,h.p⟩
theorem lie{w:World}{A o:Nat}{S:Nat->HS}{D:Nat}{V:Nat->VV}{ra1:Option Addr}{rc1:Nat}{ha1:Option Addr}{hc1:Nat}{c:List Int}{b:List HD}{B1:Nat}(k:lU o S V)(g:Ck w A o S D 8 V)(m:OH (E8 ra1 rc1 ha1 hc1 c b) o S V)(s:ML B1 (E8 ra1 rc1 ha1 hc1 c b) w):∃l j,ra1=some ⟨l,0,none⟩/\ha1=some ⟨j,0,none⟩/\Ak w l 8 (EU .u64 (rL c))/\RH w j o (hL b) (aL b) (cL b):=by
 obtain⟨l,j,x,d⟩:=ML.g (rs:=c) (hs:=b) (os:=[]) s g.h;have n:b.length=o:=m.nh;have p:c.length=8:=m.nr;have y:=k.n1;refine⟨l,j,d.eR.some AB,d.eH.some AB,?_,?_,fun i q=>?_⟩
 ·have r:=d.regs;rw[p]at r;exact r
 ·have r:=d.heaps;rw[n]at r;exact r
 ·refine d.data i AB ?_
  have e:=(m.h.heap i (by show i<b.length;omega)).1;have z:=(k.sz i q).1;have u:((hL b i).len:Int)=(S i).size:=e;omega
structure kZ(w:World)(bH cH nH:Nat)(S:Nat->HS)(bR cR:Nat)(V:Nat->VV)(gR1 rc1 gH1 hc1:Nat)(rs1:List Int)(hs1:List HD)(B1:Nat)(gR2 rc2 gH2 hc2:Nat)(rs2:List Int)(hs2:List HD)(B2:Nat)(u:World):Prop where
 B:Below w.heap.size w u
 P:u.heap[w.heap.size]?=some (.cells #[Vs bH nH cH,Vs bR 8 cR] 26)
 Q:u.heap[w.heap.size+1]?=some (.cells #[Vs gR1 8 rc1,.bool false,.bool false,.bool false,.bool false,Vs gH1 nH hc1,Vi 0,Vi 0,.slice none 0 0] 39)
 R:u.heap[w.heap.size+2]?=some (.cells #[Vs gR2 8 rc2,.bool false,.bool false,.bool false,.bool false,Vs gH2 nH hc2,Vi 0,Vi 0,.slice none 0 0] 39)
 X:Pb u bH nH S bR V (some ⟨gR1,0,none⟩) rc1 (some ⟨gH1,0,none⟩) hc1 rs1 hs1 B1 (some ⟨gR2,0,none⟩) rc2 (some ⟨gH2,0,none⟩) hc2 rs2 hs2 B2
 D1:Ak u gR1 8 (EU .u64 (rL rs1))
 D2:Ak u gR2 8 (EU .u64 (rL rs2))
 E1:RH u gH1 nH (hL hs1) (aL hs1) (cL hs1)
 E2:RH u gH2 nH (hL hs2) (aL hs2) (cL hs2)
section
variable{w u u':World}{bH cH nH:Nat}{S:Nat->HS}{bR cR:Nat}{V:Nat->VV}{gR1 rc1 gH1 hc1:Nat}{rs1:List Int}{hs1:List HD}{B1:Nat}{gR2 rc2 gH2 hc2:Nat}{rs2:List Int}{hs2:List HD}{B2:Nat}
theorem kZ.below(h:kZ w bH cH nH S bR cR V gR1 rc1 gH1 hc1 rs1 hs1 B1 gR2 rc2 gH2 hc2 rs2 hs2 B2 u)(f:Below u.heap.size u u'):kZ w bH cH nH S bR cR V gR1 rc1 gH1 hc1 rs1 hs1 B1 gR2 rc2 gH2 hc2 rs2 hs2 B2 u':=
 ⟨h.B.trans (f.mono h.B.size),Ac h.P f,Ac h.Q f,Ac h.R f,h.X.below f,h.D1.below f h.D1.lt,h.D2.below f h.D2.lt,h.E1.below f BQ,h.E2.below f BQ⟩
theorem kZ.new(h:Pb w bH nH S bR V (some ⟨gR1,0,none⟩) rc1 (some ⟨gH1,0,none⟩) hc1 rs1 hs1 B1 (some ⟨gR2,0,none⟩) rc2 (some ⟨gH2,0,none⟩) hc2 rs2 hs2 B2)(l:Ak w gR1 8 (EU .u64 (rL rs1)))(m:Ak w gR2 8 (EU .u64 (rL rs2)))(s:RH w gH1 nH (hL hs1) (aL hs1) (cL hs1))(u:RH w gH2 nH (hL hs2) (aL hs2) (cL hs2)):∃v,((w.alloc (.cells #[Vs bH nH cH,Vs bR 8 cR] 26)).alloc (.cells #[Vs gR1 8 rc1,.bool false,.bool false,.bool false,.bool false,Vs gH1 nH hc1,Vi 0,Vi 0,.slice none 0 0] 39)).alloc (.cells #[Vs gR2 8 rc2,.bool false,.bool false,.bool false,.bool false,Vs gH2 nH hc2,Vi 0,Vi 0,.slice none 0 0] 39)=v/\kZ w bH cH nH S bR cR V gR1 rc1 gH1 hc1 rs1 hs1 B1 gR2 rc2 gH2 hc2 rs2 hs2 B2 v:=by
 generalize p:w.alloc (.cells #[Vs bH nH cH,Vs bR 8 cR] 26)=a;have r:a.heap.size=w.heap.size+1:=by rw[<-p];simp
 have n:=Az w (.cells #[Vs bH nH cH,Vs bR 8 cR] 26);have d:=(Below.refl w.heap.size w).alloc BQ (.cells #[Vs bH nH cH,Vs bR 8 cR] 26);rw[p]at n d;generalize q:a.alloc (.cells #[Vs gR1 8 rc1,.bool false,.bool false,.bool false,.bool false,Vs gH1 nH hc1,Vi 0,Vi 0,.slice none 0 0] 39)=b;have x:b.heap.size=w.heap.size+2:=by rw[<-q];simp[r]
 have k:=Az a (.cells #[Vs gR1 8 rc1,.bool false,.bool false,.bool false,.bool false,Vs gH1 nH hc1,Vi 0,Vi 0,.slice none 0 0] 39);have e:=(Below.refl a.heap.size a).alloc BQ (.cells #[Vs gR1 8 rc1,.bool false,.bool false,.bool false,.bool false,Vs gH1 nH hc1,Vi 0,Vi 0,.slice none 0 0] 39);rw[q]at k e;rw[r]at k;have o:=Az b (.cells #[Vs gR2 8 rc2,.bool false,.bool false,.bool false,.bool false,Vs gH2 nH hc2,Vi 0,Vi 0,.slice none 0 0] 39);have j:=(Below.refl b.heap.size b).alloc BQ (.cells #[Vs gR2 8 rc2,.bool false,.bool false,.bool false,.bool false,Vs gH2 nH hc2,Vi 0,Vi 0,.slice none 0 0] 39);have c:=(d.trans (e.mono d.size)).trans (j.mono (Nat.le_trans d.size e.size));rw[x]at o;exact⟨_,rfl,c,Ac (Ac n e) j,Ac k j,o,h.below c,l.below c l.lt,m.below c m.lt,s.below c BQ,u.below c BQ⟩
end
theorem NA(bH K J:Nat)(S:Nat->HS)(bR L:Nat)(V:Nat->VV)(z:Option Addr)(C:Nat)(s:Option Addr)(x:Nat)(j:List Int)(b:List HD)(O:Nat)(A:Option Addr)(D:Nat)(u:Option Addr)(y:Nat)(l:List Int)(c:List HD)(U:Nat)(w:World)(h:Pb w bH J S bR V z C s x j b O A D u y l c U):
 Ks 11 #[.agg #[Vs bH J K,Vs bR 8 L],.agg #[.slice z 8 C,.bool false,.bool false,.bool false,.bool false,.slice s J x,Vi 0,Vi 0,.slice none 0 0],.agg #[.slice A 8 D,.bool false,.bool false,.bool false,.bool false,.slice u J y,Vi 0,Vi 0,.slice none 0 0]] w fun e w'=>e=.returned (.bool true)/\Below w.heap.size w w':=by
 obtain⟨aa,M,rfl,rfl,a1,b1⟩:=lie h.k h.g h.f1 h.l1;obtain⟨ab,N,rfl,rfl,a2,b2⟩:=lie h.k h.g h.f2 h.l2;have Y:Hid _:=kZ.new h a1 a2 b1 b2 (cH:=K) (cR:=L);have ac:=h.k.n4;clear h a1 a2 b1 b2;go_enter Tryz.func11,Tryz.ntmps11;go_wp2_with fail;obtain⟨u0,hv,z0⟩:=Y.out;rw[hv];have Z:=hxy z0;clear hv z0 Y;refine(Gn _ _ _ S _ _ V _ _ _ _ j b O _ Z.X.k Z.X.g Z.X.f1 Z.X.l1).mono ?_;rintro e u1⟨rfl,a⟩;have d:=hxy (Z.below a);clear a Z;have Z:=d;clear d;have E:=Bp Z.P;have F:=Bp Z.Q;have I:=Bp Z.R;have m:=(AJ Z.P 0).trans rfl;have n:=(AJ Z.P 1).trans rfl;have o:=Bq Z.Q;have q:=Bq Z.R;go_wp2_with fail;refine(Gn _ _ _ S _ _ V _ _ _ _ l c U _ Z.X.k Z.X.g Z.X.f2 Z.X.l2).mono ?_;rintro e u2⟨rfl,a⟩;clear E F I m n o q;have d:=hxy (Z.below a);clear a Z;have Z:=d;clear d;have E:=Bp Z.P;have F:=Bp Z.Q;have I:=Bp Z.R;have m:=(AJ Z.P 0).trans rfl;have n:=(AJ Z.P 1).trans rfl;have o:=Bq Z.Q;have q:=Bq Z.R;go_wp2_with fail;refine(Hy _ _ V _ _ (rL j) _ _ _ _ _ _ _ _ _ _ _ _ _ _ (rL l) _ _ _ _ _ _ _ _ _ _ _ _ _ Z.X.g.r Z.D1 Z.D2 Z.X.r).mono ?_;rintro e u3⟨rfl,a⟩;clear E F I m n o q;have d:=hxy (Z.below a);clear a Z;have Z:=d;clear d;have E:=Bp Z.P;have F:=Bp Z.Q;have I:=Bp Z.R;have m:=(AJ Z.P 0).trans rfl;have n:=(AJ Z.P 1).trans rfl;have o:=Bq Z.Q;have q:=Bq Z.R;go_wp2_with fail;refine(Gd _ _ _ S _ _ _ _ _ _ _ M _ (hL b) (aL b) (cL b) _ _ _ _ _ _ _ _ _ _ _ _ N _ (hL c) (aL c) (cL c) _ _ _ _ _ _ AB Z.X.g.h Z.E1 Z.E2 Z.X.p).mono ?_;rintro e u4⟨rfl,a⟩;have B4:=hxy (Z.B.trans (a.mono Z.B.size));clear a E F I m n o q;go_wp2;go_ret;exact⟨rfl,B4⟩
theorem Ng(D cH o:Nat)(S:Nat->HS)(bR cR:Nat)(V:Nat->VV)(ac:Option Addr)(ae:Nat)(aa:Option Addr)(A:Nat)(ag:List Int)(b:List HD)(B1:Nat)(ad:Option Addr)(af:Nat)(ab:Option Addr)(C:Nat)(ah:List Int)(j:List HD)(B2:Nat)(w:World)(h:Pb w D o S bR V ac ae aa A ag b B1 ad af ab C ah j B2):
 Ks 8 #[.agg #[Vs D o cH,Vs bR 8 cR],.agg #[.slice ac 8 ae,.bool false,.bool false,.bool false,.bool false,.slice aa o A,Vi 0,Vi 0,.slice none 0 0],.agg #[.slice ad 8 af,.bool false,.bool false,.bool false,.bool false,.slice ab o C,Vi 0,Vi 0,.slice none 0 0]] w fun e c=>e=.returned (.bool true)/\Below w.heap.size w c:=by
 obtain⟨ai,l,rfl,rfl,a1,b1⟩:=lie h.k h.g h.f1 h.l1;obtain⟨aj,m,rfl,rfl,a2,b2⟩:=lie h.k h.g h.f2 h.l2;have ZN:Hid _:=kZ.new h a1 a2 b1 b2 (cH:=cH) (cR:=cR);have al:=h.k.n4;clear h a1 a2 b1 b2;go_enter Tryz.func8,Tryz.ntmps8;go_wp2_with fail;obtain⟨u0,hv,z0⟩:=ZN.out;rw[hv];have Z:=hxy z0;clear hv z0 ZN;refine(Gh _ _ _ S _ _ V _ _ _ _ ag b B1 _ Z.X.k Z.X.g Z.X.f1 Z.X.l1).mono ?_;rintro e u1⟨rfl,hb⟩;have K:=hxy (Z.below hb);clear hb Z;have Z:=K;clear K;have F:=Bp Z.P;have I:=Bp Z.Q;have J:=Bp Z.R;have c0:=(AJ Z.P 0).trans rfl;have c1:=(AJ Z.P 1).trans rfl;obtain⟨d0,d1,d2,d3,d4,d5,d6,d7,d8⟩:=Bq Z.Q;obtain⟨e0,e1,e2,e3,e4,e5,e6,e7,e8⟩:=Bq Z.R;go_wp2_with fail;refine(Gh _ _ _ S _ _ V _ _ _ _ ah j B2 _ Z.X.k Z.X.g Z.X.f2 Z.X.l2).mono ?_;rintro e u2⟨rfl,hb⟩;clear F I J c0 c1 d0 d1 d2 d3 d4 d5 d6 d7 d8 e0 e1 e2 e3 e4 e5 e6 e7 e8;have K:=hxy (Z.below hb);clear hb Z;have Z:=K;clear K;have l1:=Z.X.g.r.lt;have l2:=Z.D1.lt;have l3:=Z.D2.lt;have l4:=Z.X.g.h.lt;have l5:=Z.E1.1.lt;have l6:=Z.E2.1.lt;go_wp2;go_loopw [7](fun i wr=>∃k:Nat,k<=8/\i=Vi k/\Bw u2 wr)(fun i _=>8-(intOf i).toNat)
 case atStart=>exact⟨0,Nat.zero_le _,rfl,Below.refl _ _⟩
 case round=>
  obtain⟨k,hk,rfl,a⟩:=hrel;have x:=hxy a;have F:=Bp (Z.below a).P;have I:=Bp (Z.below a).Q;have J:=Bp (Z.below a).R;by_cases n:k<8
  ·have c1:=(AJ (Z.below a).P 1).trans rfl
   have d0:=(Bq (Z.below a).Q).1;have e0:=(Bq (Z.below a).R).1;have g1:=(a.cell (p:=Va bR (k*6+1)) l1).trans (Z.X.g.r.cell (i:=k*6+1) AB |>.trans (congrArg some (Bz V k 1 AB)));have r1:=(a.cell (p:=Va ai k) l2).trans (Z.D1.cell (i:=k) AB);have r2:=(a.cell (p:=Va aj k) l3).trans (Z.D2.cell (i:=k) AB);simp only[vC,EU]at g1 r1 r2;have E:=Z.X.r k n;clear a;go_upto_region 6 with fail;cases hs:(V k).s with
   |true=>
    rw[hs]at g1;clear E;go_quiet(fail);go_wp2;go_roundw
    case rel=>exact⟨k+1,AB,by go_num,below_drewN x _⟩
    case measure=>simp[intOf];omega
   |false=>
    rw[hs]at g1;rw[<-E hs]at r2;clear E;go_quiet(fail);go_wp2;go_roundw
    case rel=>exact⟨k+1,AB,by go_num,below_drewN x _⟩
    case measure=>simp[intOf];omega
  ·obtain rfl:k=8:=AB
   clear a;go_wp2;go_loopw [8](fun i wr=>∃k:Nat,k<=o/\i=Vi k/\Bw u2 wr)(fun i _=>o-(intOf i).toNat)
   case atStart=>exact⟨0,Nat.zero_le _,rfl,x⟩
   case round=>
    rename_i am _ _ _
    obtain⟨k,hk,rfl,a⟩:=hrel;have d:=hxy a;clear F I J;have F:=Bp (Z.below a).P;have I:=Bp (Z.below a).Q;have J:=Bp (Z.below a).R;have d5:=(Bq (Z.below a).Q).2.2.2.2.2.1;by_cases n:k<o
    ·have c0:=(AJ (Z.below a).P 0).trans rfl
     have e5:=(Bq (Z.below a).R).2.2.2.2.2.1;have s1:=(a.cell (p:=Va D (k*3+1)) l4).trans (Z.X.g.h.cell (i:=k*3+1) AB |>.trans (congrArg some (Fb S k 1 AB)));simp only[wm]at s1;obtain⟨x1,L,y⟩:=Z.E1.2 k n;obtain⟨x2,M,z⟩:=Z.E2.2 k n;have N:=(a.cell (p:=Va l (k*3)) l5).trans ((Z.E1.1.cell (i:=k*3+0) AB).trans (congrArg some (Iz _ k)));have O:=(a.cell (p:=Va l (k*3+2)) l5).trans ((Z.E1.1.cell (i:=k*3+2) AB).trans (congrArg some ((GD _ k).trans (show Value.slice (aL b k) _ _=Vs x1 (hL b k).len (cL b k)by rw[L];rfl))));have U:=(a.cell (p:=Va m (k*3)) l6).trans ((Z.E2.1.cell (i:=k*3+0) AB).trans (congrArg some (Iz _ k)));have Y:=(a.cell (p:=Va m (k*3+2)) l6).trans ((Z.E2.1.cell (i:=k*3+2) AB).trans (congrArg some ((GD _ k).trans (show Value.slice (aL j k) _ _=Vs x2 (hL j k).len (cL j k)by rw[M];rfl))));obtain⟨E,hd⟩:=Z.X.p k n;have u:wr.cell? (Va m (k*3))=some (.int .u64 (hL b k).base):=U.trans (by rw[E];rfl);have q:wr.cell? (Va l (k*3))=some (.int .u64 (hL b k).base):=N;have v1:∀c,Bw wr c->(convert 22 9 (Vs x1 (hL b k).len (cL b k))).run Tryz.prog c=.ok (.string (Lb (hL b k))) c:=fun c h=>Dn (hL b k) x1 (cL b k) c (y.below (a.trans (h.mono a.size)) y.lt)
     have v2:∀c,Bw wr c->(convert 22 9 (Vs x2 (hL j k).len (cL j k))).run Tryz.prog c=.ok (.string (Lb (hL j k))) c:=fun c h=>Dn (hL j k) x2 (cL j k) c (z.below (a.trans (h.mono a.size)) z.lt)
     clear N U E y z L M a;go_upto_region 11 with fail;cases hs:(S k).s with
     |true=>
      rw[hs]at s1;clear hd v1 v2;go_quiet(fail);go_wp2;go_roundw
      case rel=>exact⟨k+1,AB,by go_num,below_drewN d _⟩
      case measure=>simp[intOf];omega
     |false=>
      rw[hs]at s1;rw[<-OL (hd hs)]at v2;have b0:∀c,Bw wr c->c.cell? ⟨w.heap.size,0,none⟩=some (Vs D o cH):=fun c h=>(h.cell (p:=⟨w.heap.size,0,none⟩) F).trans c0
      have b1:∀c,Bw wr c->c.cell? ⟨w.heap.size+1,5,none⟩=some (Vs l o A):=fun c h=>(h.cell (p:=⟨w.heap.size+1,5,none⟩) I).trans d5
      have b2:∀c,Bw wr c->c.cell? ⟨w.heap.size+2,5,none⟩=some (Vs m o C):=fun c h=>(h.cell (p:=⟨w.heap.size+2,5,none⟩) J).trans e5
      have b3:Cb wr D (k*3+1) (.bool false):=fun c h=>(h.cell (p:=Va D (k*3+1)) (Ey l4 d.size)).trans s1
      have b4:Cb wr l (k*3) (.int .u64 (hL b k).base):=fun c h=>(h.cell (p:=Va l (k*3)) (Ey l5 d.size)).trans q
      have b5:Cb wr l (k*3+2) (Vs x1 (hL b k).len (cL b k)):=fun c h=>(h.cell (p:=Va l (k*3+2)) (Ey l5 d.size)).trans O
      have b6:Cb wr m (k*3) (.int .u64 (hL b k).base):=fun c h=>(h.cell (p:=Va m (k*3)) (Ey l6 d.size)).trans u
      have b7:Cb wr m (k*3+2) (Vs x2 (hL j k).len (cL j k)):=fun c h=>(h.cell (p:=Va m (k*3+2)) (Ey l6 d.size)).trans Y
      clear hd c0 d5 e5 s1 q O u Y;refine wp_region_held_drew (S:=fun c=>Bw wr c) AV BJ.drew (fun _=>?_);have ak:Bw wr wr.drew:=BJ.drew;refine EX [0,1,2,3,4,5,6,7,8,9,10,11,12,13,14,15,16,17,18,19,20,21,22,23,24,25,26,27,28,29,30,31,32,33,34,35,36,37,38] ?_;refine wpAnyH_done AV ?_ _;clear b0 b1 b2 b3 b4 b5 b6 b7 v1 v2 ak l1 l2 l3 l4 l5 l6 F I J;go_wp2;go_roundw
      case rel=>exact⟨k+1,AB,by go_num,d.drew⟩
      case measure=>simp[intOf];omega
    ·obtain rfl:k=o:=AB
     go_wp2;go_ret;exact⟨rfl,Z.B.trans (d.mono Z.B.size)⟩
end Go.Proofs.YtcjnmdgomocpgaaGreatDoor
