import Derived.Test.YtcjnmdgomocpgaaGreatDoorSnSame
set_option maxHeartbeats 8000000
set_option maxRecDepth 20000
namespace Go.Proofs.YtcjnmdgomocpgaaGreatDoor
open Go.RowKit
theorem UE(w:World)(a b c:Array Value)(d e j:TypeId):Below w.heap.size w (((w.alloc (.cells a d)).alloc (.cells b e)).alloc (.cells c j))/\Cl (((w.alloc (.cells a d)).alloc (.cells b e)).alloc (.cells c j)) w.heap.size a.toList/\Cl (((w.alloc (.cells a d)).alloc (.cells b e)).alloc (.cells c j)) (w.heap.size+1) b.toList/\Cl (((w.alloc (.cells a d)).alloc (.cells b e)).alloc (.cells c j)) (w.heap.size+2) c.toList:=by
 refine⟨((Ai).alloc AX _).alloc (by simp;omega) _,((Cl.new).below Ai).below Ai,?_,?_⟩
 ·have h:=(Cl.new (w:=w.alloc (.cells a d)) (vs:=b) (t:=e)).below (BJ.alloc BQ (.cells c j))
  simp only[World.size_alloc]at h;exact h
 ·have h:=Cl.new (w:=(w.alloc (.cells a d)).alloc (.cells b e)) (vs:=c) (t:=j)
  simp only[World.size_alloc]at h;exact h
theorem OQ(a b:Bv)(c d k l:Nat)(w:World)(h:Ak w c a.len (EU .u8 a.dat))(j:Ak w d b.len (EU .u8 b.dat))(m:Lb a=Lb b):
 Ks 42 #[Vs c a.len k,Vs d b.len l] w fun e o=>e=.returned (.bool true)/\o=w:=by
 have p:=Dn a c k w h;have n:=Dn b d l w j;rw[<-m]at n;clear h j;go_enter Tryz.func42,Tryz.ntmps42;go_wp2;go_ret;exact⟨rfl,rfl⟩
def Zc(w:World)(a:Option Addr)(n:Nat)(K V:Nat->Int):Prop:=0<n->∃b,a=some ⟨b,0,none⟩/\Ak w b (n*2) (Dg K V)
theorem Zc.below{w j:World}{a:Option Addr}{n:Nat}{K V:Nat->Int}(h:Zc w a n K V)(d:Below w.heap.size w j):Zc j a n K V:=fun c=>by
 obtain⟨b,e,r⟩:=h c;exact⟨b,e,r.below d r.lt⟩
theorem Tq(q:Option Addr)(F:Nat)(r:Option Addr)(I n:Nat)(j m l o:Nat->Int)(w:World)(N:n<=1048576)(z:Zc w q n j m)(A:Zc w r n l o)(B:∀i,i<n->j i=l i/\m i=o i):
 Ks 41 #[.slice q n F,.slice r n I] w fun e L=>e=.returned (.bool true)/\Below w.heap.size w L:=by
 have C:=hxy z;have D:=hxy A;have E:=hxy B;clear z A B;go_enter Tryz.func41,Tryz.ntmps41;go_wp2;go_loopw [5](fun i wr=>∃k:Nat,k<=n/\i=Vi k/\Bw w wr)(fun i _=>n-(intOf i).toNat)
 case atStart=>exact⟨0,Nat.zero_le _,rfl,Below.refl _ _⟩
 case round=>
  obtain⟨k,M,rfl,a⟩:=hrel;have b:=hxy a;by_cases h:k<n
  ·obtain⟨s,rfl,c⟩:=C.out AB
   obtain⟨u,rfl,d⟩:=D.out AB;obtain⟨x,y⟩:=E.out k h;have O:=(a.cell (p:=Va s (k*2)) c.lt).trans (c.cell (i:=k*2+0) AB |>.trans (congrArg some (Zh _ _ k)));have Q:=(a.cell (p:=Va s (k*2+1)) c.lt).trans (c.cell (i:=k*2+1) AB |>.trans (congrArg some (M4 _ _ k)));have J:=(a.cell (p:=Va u (k*2)) d.lt).trans (d.cell (i:=k*2+0) AB |>.trans (congrArg some (Zh _ _ k)));have K:=(a.cell (p:=Va u (k*2+1)) d.lt).trans (d.cell (i:=k*2+1) AB |>.trans (congrArg some (M4 _ _ k)));rw[<-x]at J;rw[<-y]at K;clear x y a c d;go_upto_region 6 with fail;go_quiet(fail);go_wp2;go_roundw
   case rel=>exact⟨k+1,AB,by go_num,below_drewN b _⟩
   case measure=>simp[intOf];omega
  ·obtain rfl:k=n:=AB
   clear a;go_wp2;go_ret;exact⟨rfl,b⟩
theorem LD(u cH n:Nat)(S:Nat->HS)(aV:Option Addr)(nV cV:Nat)(Z y:Int)(l:Nat)(B F:Nat)(z1 c1 M J:Bool)(m q1:Nat)(H1:Nat->Bv)(a1:Nat->Option Addr)(s1:Nat->Nat)(q:Option Addr)(D:Nat)(K1 V1:Nat->Int)(C I:Nat)(z2 c2 N K:Bool)(o q2:Nat)(H2:Nat->Bv)(a2:Nat->Option Addr)(s2:Nat->Nat)(r:Option Addr)(E:Nat)(K2 V2:Nat->Int)(w:World)(n4:n<=4)(lO:l<=1048576)(af:y≠2)(h1:Ak w u (n*3) (Ur S))(h2:RH w m n H1 a1 s1)(h3:RH w o n H2 a2 s2)(hq:∀i,i<n->(S i).s=false->ZL (H1 i) (H2 i))(o1:Zc w q l K1 V1)(o2:Zc w r l K2 V2)(he:∀i,i<l->K1 i=K2 i/\V1 i=V2 i):
 Ks 13 #[.agg #[Vs u n cH,.slice aV nV cV],.agg #[Vs B 8 F,.bool z1,.bool c1,.bool M,.bool J,Vs m n q1,Vi Z,Vi y,.slice q l D],.agg #[Vs C 8 I,.bool z2,.bool c2,.bool N,.bool K,Vs o n q2,Vi Z,Vi y,.slice r l E]] w fun e b=>e=.returned (.bool true)/\Below w.heap.size w b:=by
 have A1:=hxy h1;have A2:=hxy h2;have A3:=hxy h3;have HQ:=hxy hq;have O1:=hxy o1;have O2:=hxy o2;have HE:=hxy he;clear h1 h2 h3 hq o1 o2 he;go_enter Tryz.func13,Tryz.ntmps13;go_wp2_with fail;obtain⟨u0,hv,hb,p0,q0,r0⟩:∃v,((w.alloc (.cells #[Vs u n cH,.slice aV nV cV] 26)).alloc (.cells #[Vs B 8 F,.bool z1,.bool c1,.bool M,.bool J,Vs m n q1,Vi Z,Vi y,.slice q l D] 39)).alloc (.cells #[Vs C 8 I,.bool z2,.bool c2,.bool N,.bool K,Vs o n q2,Vi Z,Vi y,.slice r l E] 39)=v/\Bw w v/\Cl v w.heap.size [Vs u n cH,.slice aV nV cV]/\Cl v (w.heap.size+1) [Vs B 8 F,.bool z1,.bool c1,.bool M,.bool J,Vs m n q1,Vi Z,Vi y,.slice q l D]/\Cl v (w.heap.size+2) [Vs C 8 I,.bool z2,.bool c2,.bool N,.bool K,Vs o n q2,Vi Z,Vi y,.slice r l E]:=⟨_,rfl,UE _ _ _ _ _ _ _⟩
 rw[hv];refine(Tq _ _ _ _ _ K1 V1 K2 V2 _ lO (O1.below hb) (O2.below hb) HE).mono ?_;rintro e u1⟨rfl,d⟩;have BU:=hxy (hb.trans (d.mono hb.size));have P:=hxy (p0.below d);have Q:=hxy (q0.below d);have R:=hxy (r0.below d);clear hv hb d p0 q0 r0 u0;have zP:=P.1;have zQ:=Q.1;have zR:=R.1;have U:=P.2 0 AX;have X:=Q.2 5 AX;have d6:=Q.2 6 AX;have d7:=Q.2 7 AX;have Y:=R.2 5 AX;have e6:=R.2 6 AX;have e7:=R.2 7 AX;simp only[KJ,List.getElem?_cons_zero,List.getElem?_cons_succ,Option.getD_some]at U X d6 d7 Y e6 e7;have ae:(y==2)=false:=by simpa using af
 go_wp2;clear zP zQ zR U X d6 d7 Y e6 e7 ae;have l1:u<u1.heap.size:=Ey A1.lt BU.size;have l2:m<u1.heap.size:=Ey A2.1.lt BU.size;have l3:o<u1.heap.size:=Ey A3.1.lt BU.size;go_loopw [7](fun i wr=>∃k:Nat,k<=n/\i=Vi k/\Bw u1 wr)(fun i _=>n-(intOf i).toNat)
 case atStart=>exact⟨0,Nat.zero_le _,rfl,Below.refl _ _⟩
 case round=>
  obtain⟨k,hk,rfl,a⟩:=hrel;have c:=hxy a;have O:=hxy (BU.trans (a.mono BU.size));have zP:=(P.below a).1;have zQ:=(Q.below a).1;have zR:=(R.below a).1;have U:=(P.below a).2 0 AX;simp only[KJ,List.getElem?_cons_zero,Option.getD_some]at U;by_cases L:k<n
  ·have X:=(Q.below a).2 5 AX
   have Y:=(R.below a).2 5 AX;simp only[KJ,List.getElem?_cons_zero,List.getElem?_cons_succ,Option.getD_some]at X Y;have j:=(O.cell (p:=Va u (k*3+1)) A1.lt).trans (A1.cell (i:=k*3+1) AB |>.trans (congrArg some (Fb S k 1 AB)));simp only[wm]at j;obtain⟨x1,aa,z⟩:=A2.2 k L;obtain⟨x2,ab,A⟩:=A3.2 k L;have ac:=(O.cell (p:=Va m (k*3+2)) A2.1.lt).trans ((A2.1.cell (i:=k*3+2) AB).trans (congrArg some ((GD _ k).trans (show Value.slice (a1 k) _ _=Vs x1 (H1 k).len (s1 k)by rw[aa];rfl))));have ad:=(O.cell (p:=Va o (k*3+2)) A3.1.lt).trans ((A3.1.cell (i:=k*3+2) AB).trans (congrArg some ((GD _ k).trans (show Value.slice (a2 k) _ _=Vs x2 (H2 k).len (s2 k)by rw[ab];rfl))));have R1:=hxy (z.below O z.lt);have R2:=hxy (A.below O A.lt);clear aa ab z A a;go_upto_region 6 with fail;cases hs:(S k).s with
   |true=>
    rw[hs]at j;go_quiet(fail);go_wp2;go_roundw
    case rel=>exact⟨k+1,AB,by go_num,below_drewN c _⟩
    case measure=>simp[intOf];omega
   |false=>
    rw[hs]at j;have HD:=hxy (OL (HQ k L hs));have b0:∀b,Bw wr b->b.cell? ⟨w.heap.size,0,none⟩=some (Vs u n cH):=fun b h=>(h.cell (p:=⟨w.heap.size,0,none⟩) zP).trans U
    have b1:∀b,Bw wr b->b.cell? ⟨w.heap.size+1,5,none⟩=some (Vs m n q1):=fun b h=>(h.cell (p:=⟨w.heap.size+1,5,none⟩) zQ).trans X
    have b2:∀b,Bw wr b->b.cell? ⟨w.heap.size+2,5,none⟩=some (Vs o n q2):=fun b h=>(h.cell (p:=⟨w.heap.size+2,5,none⟩) zR).trans Y
    have b3:Cb wr u (k*3+1) (.bool false):=fun b h=>(h.cell (p:=Va u (k*3+1)) (Ey l1 c.size)).trans j
    have b5:Cb wr m (k*3+2) (Vs x1 (H1 k).len (s1 k)):=fun b h=>(h.cell (p:=Va m (k*3+2)) (Ey l2 c.size)).trans ac
    have b7:Cb wr o (k*3+2) (Vs x2 (H2 k).len (s2 k)):=fun b h=>(h.cell (p:=Va o (k*3+2)) (Ey l3 c.size)).trans ad
    clear U X Y j ac ad;refine wp_region_held_drew (S:=fun b=>Bw wr b) AV BJ.drew (fun _=>?_);have x:Bw wr wr.drew:=BJ.drew;refine EX [0,1,2,3,4,5,6,7,8,9,10,11,12,13,14,15,16,17,18,19] ?_;refine AO 20 rfl (fun KK hK=>?_);go_simp;refine(OQ (H1 k) (H2 k) _ _ _ _ _ (R1.below x R1.lt) (R2.below x R2.lt) HD).mono ?_;rintro e w1⟨rfl,hw⟩;rw[hw];refine hK.out _ _ x (fun _=>?_);clear hK KK hw;refine Cn ?_;refine EX [21,22] ?_;refine wpAnyH_done AV ?_ _;clear b0 b1 b2 b3 b5 b7 x zP zQ zR;go_wp2;go_roundw
    case rel=>exact⟨k+1,AB,by go_num,c.drew⟩
    case measure=>simp[intOf];omega
  ·obtain rfl:k=n:=AB
   clear a;go_wp2;go_ret;exact⟨rfl,O⟩
end Go.Proofs.YtcjnmdgomocpgaaGreatDoor
