import Derived.Test.YtcjnmdgomocpgaaGreatDoorOfFuWk
set_option maxHeartbeats 16000000
set_option maxRecDepth 20000
namespace Go.Proofs.YtcjnmdgomocpgaaGreatDoor
section
open Go.RowKit
variable {b:Nat}{w:World}
theorem Fw.arr{p:Nat}{j:World}{n:Nat}{f:Nat->Value}(h:Fw p w j)(a:Ak w b n f)(c:b≠p):Ak j b n f:=
 ⟨Ey a.lt h.size,fun i=>(h.frozen a.lt c).trans (a.free i),fun _ d=>(h.cell a.lt c).trans (a.cell d)⟩
theorem Fw.alloc{p:Nat}{a b:World}(h:Fw p a b)(o:Obj):Fw p a (b.alloc o):=h.trans (.of_below Ai)
theorem Vb.setLo{x:VV}(h:Vb w b x)(m:Int):Vb (w.setCell (Va b 4) (Vi m)) b {x with lo:=m}:=(Ak.set1 h 4 AB _).congr (Ll rfl rfl rfl rfl rfl rfl)
theorem Vb.setHi{x:VV}(h:Vb w b x)(m:Int):Vb (w.setCell (Va b 5) (Vi m)) b {x with hi:=m}:=(Ak.set1 h 5 AB _).congr (Ll rfl rfl rfl rfl rfl rfl)
def vV(x:VV):Prop:=x.k=0/\x.h=0/\x.lo=0/\x.hi=0/\ -1<=x.m/\x.m<=1099511627776
def tK(x:VV)(n:Int):Prop:=x.k=1/\x.s=false/\x.m=0/\0<=x.h/\x.h<n/\ -1099511627776<=x.lo/\x.lo<=x.hi/\x.hi<=1099511627776
theorem Pw(p:Nat)(o:Option Addr)(n b:Nat)(w:World)(S:CJ w p o n b):
 Ks 47 #[Vq p] w fun e w'=>∃x:VV,e=.returned x.v/\vV x/\Fw p w w'/\CJ w' p o n b:=by
 have a:=S.lt;have Y:=hxy S;clear S;go_enter Tryz.func47,Tryz.ntmps47;go_wp2_with fail;refine(Ed p o n b 2 _ AB (Y.below Ai)).mono ?_;rintro e h⟨s,rfl,R,k1⟩;have D:Hid (Vb h w.heap.size ⟨0,false,0,0,0,0⟩):=R.arr (Vb.new w ⟨0,false,0,0,0,0⟩) AB;have X:Hid (Fw p w h):=((Fw.refl _ _).alloc _).trans R;have Z:=hxy k1;clear R k1 Y;go_wp2_with fail;refine(Af p o n b 6 _ AB (Z.below Ai)).mono ?_;rintro e U⟨k,rfl,k0,k6,E,k2⟩;have r:=D.lt;have u:p<h.heap.size:=AB;have d:Hid (Vb U h.heap.size ⟨0,s,-1,0,0,0⟩):=E.arr (Vb.new h ⟨0,s,-1,0,0,0⟩) AB;have c:Hid (Vb U w.heap.size ⟨0,false,0,0,0,0⟩):=E.arr (D.below ((Below.refl h.heap.size h).alloc BQ _) D.lt) AB;have y:Hid (Fw p w U):=(X.alloc _).trans E;have z:=hxy k2;clear E k2 Z X D;by_cases c3:k<3
 ·go_wp2_with fail
  refine(Af p o n b 20 _ AB z).mono ?_;rintro e C⟨m,rfl,m0,m1,l,B⟩;have V3:Hid (Vb C h.heap.size ⟨0,s,-1,0,0,0⟩):=l.arr d AB;have j:Hid (Vb C w.heap.size ⟨0,false,0,0,0,0⟩):=l.arr c AB;have F3:=hxy (y.trans l);have A:=hxy B;clear l B d c y z;have L:=V3.cells;have M:=V3.free;have N:=V3.lt;have I:=j.cells;have J:=j.free;have K:=j.lt;go_wp2;refine mY (VV.v ⟨0,s,m,0,0,0⟩) (by simp[results,Tryz.results47,go_sem,VV.v, *]) ⟨⟨0,s,m,0,0,0⟩,rfl,⟨rfl,rfl,rfl,rfl,by simp;omega,by simp;omega⟩,((((((F3.put (Nat.le_of_lt r) _ _).put BQ _ _).put BQ _ _).put BQ _ _).put BQ _ _).put BQ _ _).put BQ _ _,((((((A.put u _ _).put a _ _).put a _ _).put a _ _).put a _ _).put a _ _).put a _ _⟩
 ·by_cases c4:k=3
  ·subst c4
   have L:=d.cells;have M:=d.free;have N:=d.lt;have I:=c.cells;have J:=c.free;have K:=c.lt;go_wp2;refine mY (VV.v ⟨0,s,255,0,0,0⟩) (by simp[results,Tryz.results47,go_sem,VV.v, *]) ⟨⟨0,s,255,0,0,0⟩,rfl,⟨rfl,rfl,rfl,rfl,AX,AX⟩,((((((y.put (Nat.le_of_lt r) _ _).put BQ _ _).put BQ _ _).put BQ _ _).put BQ _ _).put BQ _ _).put BQ _ _,((((((z.put u _ _).put a _ _).put a _ _).put a _ _).put a _ _).put a _ _).put a _ _⟩
  ·by_cases c5:k=4
   ·subst c5
    go_wp2_with fail;refine(Ed p o n b 4 _ AB z).mono ?_;rintro e C⟨q,rfl,l,B⟩;have V3:Hid (Vb C h.heap.size ⟨0,s,-1,0,0,0⟩):=l.arr d AB;have j:Hid (Vb C w.heap.size ⟨0,false,0,0,0,0⟩):=l.arr c AB;have F3:=hxy (y.trans l);have A:=hxy B;clear l B d c y z;cases q with
    |false=>
     have L:=V3.cells;have M:=V3.free;have N:=V3.lt;have I:=j.cells;have J:=j.free;have K:=j.lt;go_wp2;refine mY (VV.v ⟨0,s,-1,0,0,0⟩) (by simp[results,Tryz.results47,go_sem,VV.v, *]) ⟨⟨0,s,-1,0,0,0⟩,rfl,⟨rfl,rfl,rfl,rfl,AX,AX⟩,((((((F3).put BQ _ _).put BQ _ _).put BQ _ _).put BQ _ _).put BQ _ _).put BQ _ _,((((((A).put a _ _).put a _ _).put a _ _).put a _ _).put a _ _).put a _ _⟩
    |true=>
     go_wp2_with fail;refine(Af p o n b 3 _ AB A).mono ?_;rintro e w4⟨m,rfl,m0,m1,F,k4⟩;have Q:Hid (Vb w4 h.heap.size ⟨0,s,-1,0,0,0⟩):=F.arr V3 AB;have O:Hid (Vb w4 w.heap.size ⟨0,false,0,0,0,0⟩):=F.arr j AB;have F4:=hxy (F3.trans F);have K4:=hxy k4;clear F k4 V3 j F3 A;have L:=Q.cells;have M:=Q.free;have N:=Q.lt;have I:=O.cells;have J:=O.free;have K:=O.lt;go_wp2;refine mY (VV.v ⟨0,s,1099511627776-m,0,0,0⟩) (by simp[results,Tryz.results47,go_sem,VV.v, *]) ⟨⟨0,s,1099511627776-m,0,0,0⟩,rfl,⟨rfl,rfl,rfl,rfl,by simp;omega,by simp;omega⟩,((((((F4.put (Nat.le_of_lt r) _ _).put BQ _ _).put BQ _ _).put BQ _ _).put BQ _ _).put BQ _ _).put BQ _ _,((((((K4.put u _ _).put a _ _).put a _ _).put a _ _).put a _ _).put a _ _).put a _ _⟩
   ·skip
    have L:=d.cells;have M:=d.free;have N:=d.lt;have I:=c.cells;have J:=c.free;have K:=c.lt;go_wp2;refine mY (VV.v ⟨0,s,-1,0,0,0⟩) (by simp[results,Tryz.results47,go_sem,VV.v, *]) ⟨⟨0,s,-1,0,0,0⟩,rfl,⟨rfl,rfl,rfl,rfl,AX,AX⟩,((((((y).put BQ _ _).put BQ _ _).put BQ _ _).put BQ _ _).put BQ _ _).put BQ _ _,((((((z).put a _ _).put a _ _).put a _ _).put a _ _).put a _ _).put a _ _⟩
theorem Pt(p:Nat)(o:Option Addr)(n a:Nat)(hs:Int)(w:World)(hm:1<=hs)(hc:CJ w p o n a):
 Ks 48 #[Vq p,Vi hs] w fun e w'=>∃x:VV,e=.returned x.v/\tK x hs/\Fw p w w'/\CJ w' p o n a:=by
 have b:=hc.lt;have HC:=hxy hc;clear hc;go_enter Tryz.func48,Tryz.ntmps48;go_wp2_with fail;refine(Af p o n a hs _ hm (HC.below Ai)).mono ?_;rintro e d⟨h,rfl,h0,h1,f,c⟩;have R1:Hid (Vb d w.heap.size ⟨0,false,0,0,0,0⟩):=f.arr (Vb.new w ⟨0,false,0,0,0,0⟩) AB;have F1:Hid (Fw p w d):=((Fw.refl _ _).alloc _).trans f;have K1:=hxy c;clear f c HC;have s:=R1.lt;have u:p<d.heap.size:=AB;go_wp2_with fail;refine(Af p o n a 5 _ AB (K1.below Ai)).mono ?_;rintro e w2⟨j,rfl,l0,l1,f,c⟩;have V2:Hid (Vb w2 d.heap.size ⟨1,false,0,h,0,0⟩):=f.arr (Vb.new d ⟨1,false,0,h,0,0⟩) AB;have Z:Hid (Vb w2 w.heap.size ⟨0,false,0,0,0,0⟩):=f.arr (R1.below ((Below.refl d.heap.size d).alloc BQ _) R1.lt) AB;have F2:Hid (Fw p w w2):=(F1.alloc _).trans f;have K2:=hxy c;clear f c K1 F1 R1;obtain⟨M,N,O,Q,B,R⟩:=V2.cells;have U:=V2.free;have X:=V2.lt;obtain⟨C,D,E,F,I,J⟩:=Z.cells;have K:=Z.free;have L:=Z.lt;go_upto_region 3 with fail;obtain⟨w3,ab,V3,R3,F3,K3⟩:∃v,w2.setCell ⟨d.heap.size,4,none⟩ (Vi j)=v/\Hid (Vb v d.heap.size ⟨1,false,0,h,j,0⟩)/\Hid (Vb v w.heap.size ⟨0,false,0,0,0,0⟩)/\Hid (Fw p w v)/\Hid (CJ v p o n a):=⟨_,rfl,V2.setLo j,Ak.other Z (by simp;omega) _,F2.put (Nat.le_of_lt s) _ _,K2.put u _ _⟩
 rw[ab];clear ab V2 Z F2 K2 M N O Q B R U X C D E F I J K L;have B:=V3.cells.2.2.2.2.1;refine wp_region_held_drew (S:=fun w'=>w'.cell? ⟨d.heap.size,4,none⟩=some (Vi j)) AV ?_ (fun _=>?_)
 ·exact((Below.refl w3.heap.size w3).drew.cell (p:=⟨d.heap.size,4,none⟩) V3.lt).trans B
 obtain⟨w4,ac,f,c⟩:∃v,w3.drew=v/\Fw p w3 v/\CJ v p o n a:=⟨_,rfl,.of_below BJ.drew,K3.below BJ.drew⟩
 rw[ac]at *;have V4:Hid (Vb w4 d.heap.size ⟨1,false,0,h,j,0⟩):=f.arr V3 AB;have R4:Hid (Vb w4 w.heap.size ⟨0,false,0,0,0,0⟩):=f.arr R3 AB;have F4:=hxy (F3.trans f);have K4:=hxy c;clear f c V3 R3 F3 K3;clear ac;have ae:=V4.cells.2.2.2.2.1;refine EX [0,1,2,4] ?_;refine AO 3 rfl (fun Y A=>?_);go_simp;refine(Af p o n a 4 _ AB K4).mono ?_;rintro e w5⟨q,rfl,q0,q1,f,c⟩;have V5:Hid (Vb w5 d.heap.size ⟨1,false,0,h,j,0⟩):=f.arr V4 AB;have R5:Hid (Vb w5 w.heap.size ⟨0,false,0,0,0,0⟩):=f.arr R4 AB;have F5:=hxy (F4.trans f);have K5:=hxy c;clear f c V4 R4 F4 K4;go_wp2_with fail;refine A.out _ _ V5.cells.2.2.2.2.1 (fun af=>?_);clear A Y;try go_frame
 refine AO 5 rfl (fun Y A=>?_);go_simp;refine(Af p o n a 2 _ AB K5).mono ?_;rintro e w6⟨r,rfl,C,D,f,c⟩;have V6:Hid (Vb w6 d.heap.size ⟨1,false,0,h,j,0⟩):=f.arr V5 AB;have R6:Hid (Vb w6 w.heap.size ⟨0,false,0,0,0,0⟩):=f.arr R5 AB;have F6:=hxy (F5.trans f);have K6:=hxy c
 clear f c V5 R5 F5 K5
 go_wp2_with fail
 refine A.out _ _ V6.cells.2.2.2.2.1 (fun ag=>?_)
 clear A Y
 try go_frame
 refine EX [6,7,8] ?_
 obtain⟨M,N,O,Q,B,R⟩:=V6.cells
 have U:=V6.free
 have X:=V6.lt
 obtain⟨C,D,E,F,I,J⟩:=R6.cells
 have K:=R6.free
 have L:=R6.lt
 refine AO 9 rfl (fun Y A=>?_)
 go_simp
 have hr:r=0∨r=1:=AB
 obtain⟨l,aa,e0,e1⟩:∃l:Int,IntKind.i64.wrap (j+IntKind.i64.wrap (q*r))=l/\j<=l/\l<=100:=by
  refine⟨_,rfl,?_,?_⟩<;>(rcases hr with rfl|rfl<;>simp only[Int.mul_zero,Int.mul_one,IntKind.wrap_i64]<;>omega)
 rw[aa]
 clear aa hr
 obtain⟨w7,ad,V7,R7,F7,K7⟩:∃v,w6.setCell ⟨d.heap.size,5,none⟩ (Vi l)=v/\Hid (Vb v d.heap.size ⟨1,false,0,h,j,l⟩)/\Hid (Vb v w.heap.size ⟨0,false,0,0,0,0⟩)/\Hid (Fw p w v)/\Hid (CJ v p o n a):=⟨_,rfl,V6.setHi l,Ak.other R6 (by simp;omega) _,F6.put (Nat.le_of_lt s) _ _,K6.put u _ _⟩
 rw[ad]
 refine A.out _ _ V7.cells.2.2.2.2.1 (fun _=>?_)
 clear A Y
 refine wpAnyH_done AV ?_ _
 clear ad V6 R6 F6 K6 ae af ag B M N O Q R U X C D E F I J K L
 go_wp2_with fail
 refine(Af p o n a 30 _ AB K7).mono ?_
 rintro e w8⟨k,rfl,k0,k1,f,c⟩
 have z:Hid (Vb w8 d.heap.size ⟨1,false,0,h,j,l⟩):=f.arr V7 AB
 have y:Hid (Vb w8 w.heap.size ⟨0,false,0,0,0,0⟩):=f.arr R7 AB
 have F8:=hxy (F7.trans f)
 have K8:=hxy c
 clear f c V7 R7 F7 K7
 by_cases c0:k=0
 ·subst c0
  obtain⟨M,N,O,Q,B,R⟩:=z.cells
  have U:=z.free
  have X:=z.lt
  obtain⟨C,D,E,F,I,J⟩:=y.cells
  have K:=y.free
  have L:=y.lt
  go_wp2
  refine mY (VV.v ⟨1,false,0,h,-1099511627776,l⟩) (by simp[results,Tryz.results48,go_sem,VV.v, *]) ⟨⟨1,false,0,h,-1099511627776,l⟩,rfl,⟨rfl,rfl,rfl,h0,h1,AX,by simp;omega,by simp;omega⟩,((((((F8.put (Nat.le_of_lt s) _ _).put BQ _ _).put BQ _ _).put BQ _ _).put BQ _ _).put BQ _ _).put BQ _ _,((((((K8.put u _ _).put b _ _).put b _ _).put b _ _).put b _ _).put b _ _).put b _ _⟩
 ·by_cases c1:k=1
  ·subst c1
   go_wp2_with fail
   refine(Af p o n a 30 _ AB K8).mono ?_
   rintro e w9⟨m,rfl,m0,m1,f,c⟩
   have V9:Hid (Vb w9 d.heap.size ⟨1,false,0,h,j,l⟩):=f.arr z AB
   have R9:Hid (Vb w9 w.heap.size ⟨0,false,0,0,0,0⟩):=f.arr y AB
   have F9:=hxy (F8.trans f)
   have K9:=hxy c
   clear f c z y F8 K8
   obtain⟨M,N,O,Q,B,R⟩:=V9.cells
   have U:=V9.free
   have X:=V9.lt
   obtain⟨C,D,E,F,I,J⟩:=R9.cells
   have K:=R9.free
   have L:=R9.lt
   go_wp2
   refine mY (VV.v ⟨1,false,0,h,j,1099511627776-m⟩) (by simp[results,Tryz.results48,go_sem,VV.v, *]) ⟨⟨1,false,0,h,j,1099511627776-m⟩,rfl,⟨rfl,rfl,rfl,h0,h1,by simp;omega,by simp;omega,by simp;omega⟩,((((((F9.put (Nat.le_of_lt s) _ _).put BQ _ _).put BQ _ _).put BQ _ _).put BQ _ _).put BQ _ _).put BQ _ _,((((((K9.put u _ _).put b _ _).put b _ _).put b _ _).put b _ _).put b _ _).put b _ _⟩
  ·skip
   obtain⟨M,N,O,Q,B,R⟩:=z.cells
   have U:=z.free
   have X:=z.lt
   obtain⟨C,D,E,F,I,J⟩:=y.cells
   have K:=y.free
   have L:=y.lt
   go_wp2
   refine mY (VV.v ⟨1,false,0,h,j,l⟩) (by simp[results,Tryz.results48,go_sem,VV.v, *]) ⟨⟨1,false,0,h,j,l⟩,rfl,⟨rfl,rfl,rfl,h0,h1,by simp;omega,e0,by simp;omega⟩,((((((F8).put BQ _ _).put BQ _ _).put BQ _ _).put BQ _ _).put BQ _ _).put BQ _ _,((((((K8).put b _ _).put b _ _).put b _ _).put b _ _).put b _ _).put b _ _⟩
end
section
open Go.RowKit Go.Deep
variable {d:List Value}{B b e n p q s:Nat}{x:VV}{D v:Value}{u:World}
theorem Lu{Q:World}{E:Option Nat}(h:u.ownsRow B e s v n d)(l:u.grownBy Q E)(m:∀q,v.ownBlock=some q->E≠some q):Q.ownsRow B e s v n d:=by
 refine⟨h.1,?_⟩;rcases h.2 with h|⟨g,a,b,rfl,c,j,k⟩
 ·exact .inl h
 ·exact .inr ⟨g,a,b,rfl,c,Be j l (m g rfl),k⟩
theorem own_ne{J E I n':Nat}{b:List Value}(h:u.ownsRow B e s v n d)(k:u.ownsRow J E I D n' b)(m:e≠E):∀q,v.ownBlock=some q->D.ownBlock≠some q:=fun q a=>by
 rcases h.2 with⟨h,_⟩|⟨g,c,j,h,_,l,_⟩
 ·rw[h]at a;cases a
 ·rw[h]at a
  have:g=q:=Option.some.inj a;subst this;exact Ar l k m
theorem WB(h:u.ownsRow B e s v n d)(a:v.ownBlock=some q):q<u.heap.size:=by
 rcases h.2 with⟨b,_⟩|⟨g,c,j,b,_,k,_⟩
 ·rw[b]at a;cases a
 ·rw[b]at a
  have:g=q:=Option.some.inj a;have:=Bp k;omega
theorem ES{J:Nat}(h:u.ownsRow B e s v n d)(k:J<=B):u.ownsRow J e s v n d:=by
 refine⟨h.1,?_⟩;rcases h.2 with h|⟨g,a,b,rfl,j,c⟩
 ·exact .inl h
 ·exact .inr ⟨g,a,b,rfl,AB,c⟩
theorem Uv{w:World}{g c:Nat}(h:w.ownsRow B e s (Vs g n c) n d):n<=c:=by
 rcases h.2 with⟨a,_⟩|⟨l,b,j,a,_,_,k,_⟩
 ·cases a
 ·obtain⟨_,_,rfl⟩:=Value.slice.inj a
  exact k
def hcl(x:HS):List Value:=[Vi x.size,.bool x.s,.bool x.w]
def hs0:HS:=⟨0,false,false⟩
theorem Wt:∀(a:List HS)(p:Nat),p<a.length*3->(a.flatMap hcl)[p]?=some (Ur (fun i=>a.getD i hs0) p)
 |[],p,h=>by simp at h
 |y::l,p,h=>by
  rw[List.flatMap_cons];by_cases b:p<3
  ·rw[List.getElem?_append_left (by show p<3;exact b)]
   unfold Ur;rw[show p/3=0 by omega,show p%3=p by omega];match p,b with
   |0,_=>rfl
   |1,_=>rfl
   |2,_=>rfl
  ·rw[List.getElem?_append_right (by show 3<=p;omega)]
   show(l.flatMap hcl)[p-3]?=_;rw[Wt l (p-3) (by simp at h;omega)];unfold Ur;rw[show(p-3)/3=p/3-1 by omega,show(p-3)%3=p%3 by omega];obtain⟨k,c⟩:∃k,p/3=k+1:=⟨p/3-1,AB⟩
   rw[c];rfl
theorem Xl:∀(a:List VV)(p:Nat),p<a.length*6->(a.flatMap Wi)[p]?=some (vF (fun i=>a.getD i zV) p)
 |[],p,h=>by simp at h
 |y::l,p,h=>by
  rw[List.flatMap_cons];by_cases b:p<6
  ·rw[List.getElem?_append_left (by show p<6;exact b)]
   unfold vF;rw[show p/6=0 by omega,show p%6=p by omega];match p,b with
   |0,_=>rfl
   |1,_=>rfl
   |2,_=>rfl
   |3,_=>rfl
   |4,_=>rfl
   |5,_=>rfl
  ·rw[List.getElem?_append_right (by show 6<=p;omega)]
   show(l.flatMap Wi)[p-6]?=_;rw[Xl l (p-6) (by simp at h;omega)];unfold vF;rw[show(p-6)/6=p/6-1 by omega,show(p-6)%6=p%6 by omega];obtain⟨k,c⟩:∃k,p/6=k+1:=⟨p/6-1,AB⟩
   rw[c];rfl
theorem ja:(Tryz.prog.info? 45).map (fun i=>(i.zero,i.size,i.bytes))=some (some (.agg #[Vi 0,.bool false,.bool false]),3,16):=AV
structure DS(w:World)(p:Nat)(ao:Option Addr)(n cap r q:Nat)(vH:Value)(hs:List HS)(vR:Value)(vs:List VV)(u:World):Prop where
 F:Fw p w u
 K:CJ u p ao n cap
 Z:u.heap[r]?=some (.cells #[.slice none 0 0,.slice none 0 0] 26)
 X:u.heap[q]?=some (.cells #[vH,vR] 26)
 H:u.ownsRow w.heap.size 45 3 vH hs.length (hs.flatMap hcl)
 R:u.ownsRow w.heap.size 47 6 vR vs.length (vs.flatMap Wi)
 pw:p<w.heap.size
 wr:w.heap.size<=r
 rq:r<q
section
variable{w:World}{p:Nat}{ao:Option Addr}{n cap r q:Nat}{vH:Value}{hs:List HS}{vR:Value}{vs:List VV}{u u':World}
theorem DS.fw(h:DS w p ao n cap r q vH hs vR vs u)(f:Fw p u u')(c:CJ u' p ao n cap):DS w p ao n cap r q vH hs vR vs u':=
 ⟨h.F.trans f,c,Ct h.Z f (by have:=h.pw;have:=h.wr;omega),Ct h.X f (by have:=h.pw;have:=h.wr;have:=h.rq;omega),Eb h.H f h.pw,Eb h.R f h.pw,h.pw,h.wr,h.rq⟩
theorem DS.below(h:DS w p ao n cap r q vH hs vR vs u)(f:Below u.heap.size u u'):DS w p ao n cap r q vH hs vR vs u':=h.fw (.of_below f) (h.K.below f)
theorem DS.put(h:DS w p ao n cap r q vH hs vR vs u)(l:q<b)(a:vH.ownBlock≠some b)(c:vR.ownBlock≠some b)(j:Nat)(v:Value):DS w p ao n cap r q vH hs vR vs (u.setCell (Va b j) v):=by
 have d:=h.pw;have e:=h.wr;have k:=h.rq;exact⟨h.F.put AB _ _,h.K.put AB _ _,Ao h.Z AB _ _,Ao h.X AB _ _,CV h.H a _ _,CV h.R c _ _,d,e,k⟩
theorem DS.cells(h:DS w p ao n cap r q vH hs vR vs u):u.cell? (Va q 0)=some vH/\u.cell? (Va q 1)=some vR/\(∀i,u.frozen? (Va q i)=false)/\q<u.heap.size:=⟨(AJ h.X 0).trans rfl,(AJ h.X 1).trans rfl,CP h.X,Bp h.X⟩
theorem DS.growH(h:DS w p ao n cap r q vH hs vR vs u){x:HS}(a:u.grownBy u' vH.ownBlock)(o:u'.ownsRow w.heap.size 45 3 D (hs.length+1) (hs.flatMap hcl++hcl x)):DS w p ao n cap r q D (hs++[x]) vR vs (u'.setCell (Va q 0) D):=by
 have s:=h.pw;have y:=h.wr;have z:=h.rq;have d:=Be h.X a (Ar h.X h.H Ad);have l:=Be h.Z a (Ar h.Z h.H Ad);have j:=Lu h.R a (fun b m=>own_ne h.R h.H Ad b m);have c:u'.ownsRow w.heap.size 45 3 D (hs++[x]).length ((hs++[x]).flatMap hcl):=by simpa using o
 exact⟨(h.F.grown a (fun k e=>Hz h.H e)).put AB _ _,(h.K.grown a (fun k e=>by have:=Hz h.H e;omega)).put AB _ _,Ao l AB _ _,BG d 0 D,CV c (Ar d c Ad) _ _,CV j (Ar d j Ad) _ _,s,y,z⟩
theorem DS.growR(h:DS w p ao n cap r q vH hs vR vs u)(a:u.grownBy u' vR.ownBlock)(o:u'.ownsRow w.heap.size 47 6 D (vs.length+1) (vs.flatMap Wi++Wi x)):DS w p ao n cap r q vH hs D (vs++[x]) (u'.setCell (Va q 1) D):=by
 have s:=h.pw;have y:=h.wr;have z:=h.rq;have d:=Be h.X a (Ar h.X h.R Ad);have l:=Be h.Z a (Ar h.Z h.R Ad);have j:=Lu h.H a (fun b m=>own_ne h.H h.R Ad b m);have c:u'.ownsRow w.heap.size 47 6 D (vs++[x]).length ((vs++[x]).flatMap Wi):=by simpa using o
 exact⟨(h.F.grown a (fun k e=>Hz h.R e)).put AB _ _,(h.K.grown a (fun k e=>by have:=Hz h.R e;omega)).put AB _ _,Ao l AB _ _,BG d 1 D,CV j (Ar d j Ad) _ _,CV c (Ar d c Ad) _ _,s,y,z⟩
theorem DS.put6(h:DS w p ao n cap r q vH hs vR vs u)(a:q<b)(c:vH.ownBlock≠some b)(d:vR.ownBlock≠some b)(e j k l m o:Value):DS w p ao n cap r q vH hs vR vs (FC u b e j k l m o):=
 (((((h.put a c d _ _).put a c d _ _).put a c d _ _).put a c d _ _).put a c d _ _).put a c d _ _
end
def VB(u:World)(b:Nat)(x:VV):Prop:=u.heap[b]?=some (.cells #[Vi x.k,.bool x.s,Vi x.m,Vi x.h,Vi x.lo,Vi x.hi] 47)
theorem VB.cells(h:VB u b x):u.cell? (Va b 0)=some (Vi x.k)/\u.cell? (Va b 1)=some (.bool x.s)/\u.cell? (Va b 2)=some (Vi x.m)/\u.cell? (Va b 3)=some (Vi x.h)/\u.cell? (Va b 4)=some (Vi x.lo)/\u.cell? (Va b 5)=some (Vi x.hi)/\(∀i,u.frozen? (Va b i)=false)/\b<u.heap.size:=
 ⟨(AJ h 0).trans rfl,(AJ h 1).trans rfl,(AJ h 2).trans rfl,(AJ h 3).trans rfl,(AJ h 4).trans rfl,(AJ h 5).trans rfl,CP h,Bp h⟩
theorem uV(w:World)(p:Nat)(c:Option Addr)(n a:Nat)(d:CJ w p c n a):DS w p c n a w.heap.size (w.heap.size+1) (.slice none 0 0) [] (.slice none 0 0) [] ((w.alloc (.cells #[.slice none 0 0,.slice none 0 0] 26)).alloc (.cells #[.slice none 0 0,.slice none 0 0] 26)):=by
 have b:Bw w ((w.alloc (.cells #[.slice none 0 0,.slice none 0 0] 26)).alloc (.cells #[.slice none 0 0,.slice none 0 0] 26)):=(Ai).alloc AX _;have e:(w.alloc (.cells #[.slice none 0 0,.slice none 0 0] 26)).heap.size=w.heap.size+1:=AX;refine⟨.of_below b,d.below b,?_,?_,World.ownsRow_nil _ _ _ _,World.ownsRow_nil _ _ _ _,d.lt,BQ,AB⟩
 ·exact Ac (Az w _) Ai
 ·rw[<-e];exact Az _ _
def xU(w:World)(p:Nat)(ao:Option Addr)(n cap:Nat)(e:Ending)(w':World):Prop:=
 ∃(bH cH nH:Nat)(S:Nat->HS)(bR cR:Nat)(V0:Nat->VV),e=.returned (.agg #[Vs bH nH cH,Vs bR 8 cR])/\1<=nH/\nH<=4/\Ck w' bH nH S bR 8 V0/\Db nH S 8 V0=true/\w.heap.size<=bH/\w.heap.size<=bR/\Fw p w w'/\CJ w' p ao n cap/\8<=cR/\bH≠bR
theorem lS{n:Int}(h:vV x):GV x n:=Or.inl ⟨h.1,h.2.2.2.2.1,h.2.2.2.2.2,h.2.1,h.2.2.1,h.2.2.2.1⟩
theorem ow{n:Int}(h:tK x n):GV x n:=Or.inr h
theorem Po(p:Nat)(D:Option Addr)(n b:Nat)(w:World)(hc:CJ w p D n b):
 Ks 16 #[Vq p] w (xU w p D n b):=by
 have D0:=hxy (uV w p D n b hc);obtain⟨iV,gV,av,aw,ax⟩:=info_parts LC;have ae:Hid (_/\_/\_/\_):=⟨gV,av,aw,ax⟩
 obtain⟨iH,gH,ap,ar,au⟩:=info_parts ja;have ad:Hid (_/\_/\_/\_):=⟨gH,ap,ar,au⟩
 have lp:=hc.lt;clear hc gV av aw ax gH ap ar au;go_enter Tryz.func16,Tryz.ntmps16;go_upto_region 2 with fail;obtain⟨u,hu⟩:=Au ((w.alloc (.cells #[.slice none 0 0,.slice none 0 0] 26)).alloc (.cells #[.slice none 0 0,.slice none 0 0] 26));rw[hu]at D0⊢;obtain⟨r,hr⟩:=Au w.heap.size;obtain⟨q,hq⟩:=Au (w.heap.size+1);have D1:Hid (DS w p D n b r q (.slice none 0 0) [] (.slice none 0 0) [] u):=by rw[<-hr,<-hq];exact D0
 rw[hq,hr];clear hu hr hq D0;go_wp2_with fail;refine(Af p D n b 4 _ AB D1.out.K).mono ?_;rintro e u1⟨x,rfl,x0,x4,f,c⟩;have D2:=hxy (D1.out.fw f c);clear f c D1;obtain⟨m,hm⟩:∃m:Nat,(m:Int)=1+x:=⟨(1+x).toNat,AB⟩
 have m1:1<=m:=AB;have m4:m<=4:=AB;go_upto_region 3 with fail;rw[<-hm];clear hm x0 x4;go_wp2_with fail;go_loopw [5](fun iv wr=>∃(vH:Value)(d:List HS),iv=Vi (d.length:Int)/\d.length<=m/\Hid (∀h∈d,8<=h.size/\h.size<=47)/\DS w p D n b r q vH d (.slice none 0 0) [] wr)(fun iv _=>m-(intOf iv).toNat)
 case atStart=>exact⟨_,[],rfl,AX,fun h Q=>(by cases Q),D2.out⟩
 case round=>
  clear D2;obtain⟨vH,d,rfl,aX,ai,hx⟩:=hrel;have D3:=hxy hx;clear hx;by_cases aZ:d.length<m
  ·have aV:(d.length:Int)<(m:Int):=AB
   go_upto_region 7 with fail;obtain⟨u2,az,b2⟩:∃y,wr.alloc (.cells #[Vi 0,.bool false,.bool false] 45)=y/\Bw wr y:=⟨_,rfl,Ai⟩
   have n2:=V3.new wr 45 (Vi 0) (.bool false) (.bool false);rw[az]at n2⊢;have z:=hxy (D3.out.below b2);have M:=D3.out.cells.2.2.2;have S:vH.ownBlock≠some wr.heap.size:=fun e=>by have:=WB D3.out.H e;omega
   obtain⟨hb,ay⟩:=Au wr.heap.size;rw[ay]at n2 M S⊢;have N2:=hxy n2;have L:Hid (vH.ownBlock≠some hb/\(Value.slice none 0 0).ownBlock≠some hb/\p≠hb):=⟨S,(by intro e;cases e),by have:=D3.out.pw;have:=D3.out.wr;have:=D3.out.rq;omega⟩
   clear az b2 n2 ay S D3;go_wp2_with fail;refine(Af p D n b 40 _ AB z.out.K).mono ?_;rintro e u3⟨U,rfl,a1,a2,f,c⟩;have D5:=hxy (z.out.fw f c);have N3:Hid (V3 u3 hb 45 (Vi 0) (.bool false) (.bool false)):=Ct N2.out f L.out.2.2;clear f c z N2;obtain⟨c0,c1,c2⟩:=N3.out.cells;have cf:=N3.out.free;have cl:=N3.out.lt;go_upto_region 8 with fail;obtain⟨u4,af⟩:=Au (u3.setCell (Va hb 0) (Vi (8+U)));have D6:Hid (DS w p D n b r q vH d (.slice none 0 0) [] u4):=by rw[<-af];exact D5.out.put M L.out.1 L.out.2.1 _ _
   have N4:Hid (V3 u4 hb 45 (Vi (8+U)) (.bool false) (.bool false)):=by rw[<-af];exact BG N3.out 0 _
   rw[af];clear af D5 N3 c0 c1 c2 cf cl;go_wp2_with fail;refine(Ed p D n b 2 _ AB D6.out.K).mono ?_;rintro e u5⟨sc,rfl,f,c⟩;have D7:=hxy (D6.out.fw f c);have N5:Hid (V3 u5 hb 45 (Vi (8+U)) (.bool false) (.bool false)):=Ct N4.out f L.out.2.2;clear f c D6 N4;obtain⟨c0,c1,c2⟩:=N5.out.cells;have cf:=N5.out.free;have cl:=N5.out.lt;go_upto_region 9 with fail;obtain⟨u6,N⟩:=Au (u5.setCell (Va hb 1) (.bool sc));have J:Hid (DS w p D n b r q vH d (.slice none 0 0) [] u6):=by rw[<-N];exact D7.out.put M L.out.1 L.out.2.1 _ _
   have N6:Hid (V3 u6 hb 45 (Vi (8+U)) (.bool sc) (.bool false)):=by rw[<-N];exact BG N5.out 1 _
   rw[N];clear N D7 N5 c0 c1 c2 cf cl;go_wp2_with fail;refine(Af p D n b 3 _ AB J.out.K).mono ?_;rintro e u7⟨y,rfl,y0,y1,f,c⟩;have D9:=hxy (J.out.fw f c);have N7:Hid (V3 u7 hb 45 (Vi (8+U)) (.bool sc) (.bool false)):=Ct N6.out f L.out.2.2;clear f c J N6;obtain⟨c0,c1,c2⟩:=N7.out.cells;have cf:=N7.out.free;have cl:=N7.out.lt;obtain⟨wb,aC⟩:=Au (decide (0<y));go_upto_region 10 with fail;obtain⟨u8,ag⟩:=Au (u7.setCell (Va hb 2) (.bool wb));have B:Hid (DS w p D n b r q vH d (.slice none 0 0) [] u8):=by rw[<-ag];exact D9.out.put M L.out.1 L.out.2.1 _ _
   have N8:Hid (V3 u8 hb 45 (Vi (8+U)) (.bool sc) (.bool wb)):=by rw[<-ag];exact BG N7.out 2 _
   try rw[aC]
   rw[ag];clear ag D9 N7 c0 c1 c2 cf cl aC;obtain⟨ha,aJ,aN⟩:=Cf B.out.H;subst aN;obtain⟨x0,x1,xf,xz⟩:=B.out.cells;obtain⟨c0,c1,c2⟩:=N8.out.cells;have cl:=N8.out.lt;have ab:∀o,w.heap.size<=(u8.alloc o).heap.size:=fun o=>(B.out.below (BJ.alloc BQ o)).F.size
   have aa:Hid (∀j x,[Vi (8+U),.bool sc,.bool wb][j]?=some x->(u8.alloc (.cells #[Vi (8+U),.bool sc,.bool wb] 45)).cell? ((⟨u8.heap.size,0,none⟩:Addr).add j)=some x):=Fq u8 _ _;have OA:Hid (∀o,(u8.alloc o).ownsRow w.heap.size 45 3 (.slice ha d.length aJ) d.length (d.flatMap hcl)):=fun o=>(B.out.below (BJ.alloc BQ o)).H
   have aY:d.length<=4:=AB;go_wp2_with(first|(at_builtin;refine wpList_append_own_at _ rfl _ _ 23 rfl w.heap.size 45 iH _ 3 16 Tryz.underlying23 ad.out.1 ad.out.2.1 ad.out.2.2.1 ad.out.2.2.2 rfl Ad _ _ _ rfl (OA.out _) ⟨u8.heap.size,0,none⟩ 1 1 [Vi (8+U),.bool sc,.bool wb] rfl rfl aa.out ?c2 ?c3 ?c4 (ab _) ?_))
   case c2=>simp[Value.oneCell']
   case c3=>unfold maxLen;omega
   case c4=>omega
   intro v' u9 E l _ _;obtain⟨ua,ac,ba⟩:∃y,u8.alloc (.cells #[Vi (8+U),.bool sc,.bool wb] 45)=y/\Bw u8 y:=⟨_,rfl,Ai⟩
   rw[ac]at l;have ah:Hid (DS w p D n b r q v' (d++[⟨8+U,sc,wb⟩]) (.slice none 0 0) [] (u9.setCell (Va q 0) v')):=(B.out.below ba).growH (x:=⟨8+U,sc,wb⟩) l E;have I:=Be (B.out.below ba).X l (Ar (B.out.below ba).X (B.out.below ba).H Ad);have z0:=(AJ I 0).trans rfl;have zf:=CP I;have zl:=Bp I;obtain⟨vb,aS,rfl⟩:=Cf E;clear E l ba ac I B N8 x0 x1 xf xz c0 c1 c2 cl OA aa ab;go_wp2_with fail;go_roundw
   case rel=>exact⟨_,d++[⟨8+U,sc,wb⟩],AX,by simp;omega,(fun h Q=>by
    rcases List.mem_append.1 Q with Q|Q
    ·exact ai.out h Q
    ·obtain rfl:=List.mem_singleton.1 Q
     exact⟨by show 8<=8+U;omega,by show 8+U<=47;omega⟩),ah.out⟩
   case measure=>simp[intOf];omega
  ·have hm:d.length=m:=AB
   have aT:¬(d.length:Int)<(m:Int):=AB;have HM:=hxy hm;clear hm;obtain⟨O,cH,rfl⟩:=Dy D3.out.H AB;go_wp2_with fail;go_loopw [7](fun iv wr=>∃(vR:Value)(A:List VV),iv=Vi (A.length:Int)/\A.length<=8/\Hid (∀v∈A,GV v m)/\DS w p D n b r q (Vs O d.length cH) d vR A wr)(fun iv _=>8-(intOf iv).toNat)
   case atStart=>exact⟨_,[],rfl,AX,fun h Q=>(by cases Q),D3.out⟩
   case round=>
    clear D3;obtain⟨vR,A,rfl,aU,aj,hx⟩:=hrel;have z:=hxy hx;clear hx;by_cases aW:A.length<8
    rotate_left
    ·have h8:A.length=8:=AB
     have aK:¬(A.length:Int)<8:=AB;obtain⟨bR,cR,rfl⟩:=Dy z.out.R AB;rw[h8]at z;obtain⟨x0,x1,xf,xz⟩:=z.out.cells;have z0:=(AJ z.out.Z 0).trans rfl;have z1:=(AJ z.out.Z 1).trans rfl;have zf:=CP z.out.Z;have zl:=Bp z.out.Z;have a0:r≠q:=by have:=z.out.rq;omega
     have hH:O≠r:=fun e=>Ar z.out.Z z.out.H Ad (by rw[e];rfl)
     have hR:bR≠r:=fun e=>Ar z.out.Z z.out.R Ad (by rw[e];rfl)
     have RR:wr.ownsRow w.heap.size 47 6 (Vs bR 8 cR) 8 (A.flatMap Wi):=by have k:=z.out.R;rwa [h8]at k
     have SC:Hid (Ck wr O d.length (fun i=>d.getD i hs0) bR 8 (fun i=>A.getD i zV)):=⟨⟨(z.out.H.lt _ rfl).2,fun i=>z.out.H.frozenAt i,fun i hi=>by rw[z.out.H.cellAt i hi];exact Wt d i hi⟩,⟨(RR.lt _ rfl).2,fun i=>RR.frozenAt i,fun i hi=>by
      have aI:i<A.length*6:=AB;rw[RR.cellAt i AB];exact Xl A i aI⟩⟩
     have OK:Hid (Db d.length (fun i=>d.getD i hs0) 8 (fun i=>A.getD i zV)=true):=(by
      unfold Db Dq;simp only[Bool.and_eq_true,decide_eq_true_eq,List.all_eq_true,List.mem_range];refine⟨⟨AB,fun i hi=>?_⟩,trivial,fun i hi=>?_⟩
      ·unfold GJ
       have:=ai.out (d.getD i hs0) (by rw[KJ,List.getElem?_eq_getElem hi];simp);simp only[decide_eq_true_eq];omega
      ·rw[HM.out]
       exact gv.2 (aj.out (A.getD i zV) (by rw[KJ,List.getElem?_eq_getElem AB];simp)):Db d.length (fun i=>d.getD i hs0) 8 (fun i=>A.getD i zV)=true)
     have GE:Hid (w.heap.size<=O/\w.heap.size<=bR/\Fw p w ((wr.setCell (Va r 0) (Vs O d.length cH)).setCell (Va r 1) (Vs bR 8 cR))/\CJ ((wr.setCell (Va r 0) (Vs O d.length cH)).setCell (Va r 1) (Vs bR 8 cR)) p D n b):=⟨(z.out.H.lt _ rfl).1,(RR.lt _ rfl).1,(z.out.F.put z.out.wr _ _).put z.out.wr _ _,(z.out.K.put (by have:=z.out.pw;have:=z.out.wr;omega) _ _).put (by have:=z.out.pw;have:=z.out.wr;omega) _ _⟩
     have RC:Hid (8<=cR/\O≠bR):=⟨Uv RR,fun e=>own_ne z.out.H RR Ad O rfl (by rw[e];rfl)⟩
     clear z aj ai RR;go_wp2_with fail;refine mY (.agg #[Vs O d.length cH,Vs bR 8 cR]) (by simp[results,Tryz.results16,go_sem, *]) ⟨O,cH,d.length,_,bR,cR,_,rfl,AB,AB,⟨(SC.out.h.other (a:=Va r 0) (fun e=>hH e.symm) _).other (a:=Va r 1) (fun e=>hH e.symm) _,(SC.out.r.other (a:=Va r 0) (fun e=>hR e.symm) _).other (a:=Va r 1) (fun e=>hR e.symm) _⟩,OK.out,GE.out.1,GE.out.2.1,GE.out.2.2.1,GE.out.2.2.2,RC.out⟩
    have aM:(A.length:Int)<8:=AB;go_wp2_with fail;refine(Pw p D n b _ z.out.K).mono ?_;rintro e u2⟨x,rfl,aD,f,c⟩;have D5:=hxy (z.out.fw f c);have Ga:Hid (GV x m):=lS aD;clear f c z aD;unfold VV.v;go_upto_region 15 with fail;obtain⟨u3,aA,b3⟩:∃y,u2.alloc (.cells #[Vi x.k,.bool x.s,Vi x.m,Vi x.h,Vi x.lo,Vi x.hi] 47)=y/\Bw u2 y:=⟨_,rfl,Ai⟩
    have n3:VB (u2.alloc (.cells #[Vi x.k,.bool x.s,Vi x.m,Vi x.h,Vi x.lo,Vi x.hi] 47)) u2.heap.size x:=Az _ _;rw[aA]at n3⊢;have D6:=hxy (D5.out.below b3);have M:=D5.out.cells.2.2.2;have S:(Vs O d.length cH).ownBlock≠some u2.heap.size:=fun e=>by have:=WB D5.out.H e;omega
    have ak:vR.ownBlock≠some u2.heap.size:=fun e=>by have:=WB D5.out.R e;omega
    have al:p≠u2.heap.size:=by have:=D5.out.K.lt;omega
    obtain⟨vb,aB⟩:=Au u2.heap.size;rw[aB]at n3 M S ak al⊢;have N3:=hxy n3;have L:Hid ((Vs O d.length cH).ownBlock≠some vb/\vR.ownBlock≠some vb/\p≠vb):=⟨S,ak,al⟩
    clear aA b3 n3 aB S ak al D5;go_cut [48](fun aQ wx=>∃zz:Bool,aQ=.bool zz/\DS w p D n b r q (Vs O d.length cH) d vR A wx/\VB wx vb x)
    case first=>
     by_cases h4:A.length<4
     ·have e1:decide ((A.length:Int)<4)=true:=by simp;omega
      go_wp2_with fail;refine(Af p D n b 4 _ AB D6.out.K).mono ?_;rintro e u4⟨y,rfl,y0,y1,f,c⟩;have D7:=hxy (D6.out.fw f c);have N4:=hxy (Ct N3.out f L.out.2.2);clear f c;go_wp2_with fail;go_meet;exact⟨_,rfl,D7.out,N4.out⟩
     ·have e1:decide ((A.length:Int)<4)=false:=by simp;omega
      go_wp2_with fail;go_meet;exact⟨_,rfl,D6.out,N3.out⟩
    case rest=>
    obtain⟨zz,rfl,d7,n7⟩:=hcut;have D7:=hxy d7;have N7:=hxy n7;clear d7 n7 D6 N3;generalize wc=u4 at D7 N7⊢;go_upto_if 48 with fail;go_cut [8](fun s8 wx=>s8=Vq vb/\∃C:VV,GV C m/\DS w p D n b r q (Vs O d.length cH) d vR A wx/\VB wx vb C)
    case first=>
     cases zz with
     |false=>
      go_wp2_with fail;go_meet;exact⟨rfl,x,Ga.out,D7.out,N7.out⟩
     |true=>
      go_wp2_with fail;refine(Pt p D n b (m:Int) _ AB D7.out.K).mono ?_;rintro e u5⟨C,rfl,aE,f,c⟩;have J:=hxy (D7.out.fw f c);have N8:Hid (VB u5 vb x):=Ct N7.out f L.out.2.2;have am:=hxy aE;clear f c D7 N7 aE Ga;unfold VV.v;obtain⟨c0,c1,c2,c3,c4,c5,cf,cl⟩:=N8.out.cells;go_upto_region 17 with fail;obtain⟨u6,N,d9,n9⟩:∃y,FC u5 vb (Vi C.k) (.bool C.s) (Vi C.m) (Vi C.h) (Vi C.lo) (Vi C.hi)=y/\DS w p D n b r q (Vs O d.length cH) d vR A y/\VB y vb C:=⟨_,rfl,J.out.put6 M L.out.1 L.out.2.1 _ _ _ _ _ _,Nc N8.out _ _ _ _ _ _⟩
      unfold FC at N;rw[N];have D9:=hxy d9;have N9:=hxy n9;clear N d9 n9 J N8 c0 c1 c2 c3 c4 c5 cf cl;go_cut [59](fun aR wx=>∃zz:Bool,aR=.bool zz/\(zz=true->A.length<m)/\DS w p D n b r q (Vs O d.length cH) d vR A wx/\VB wx vb C)
      case first=>
       by_cases h4:A.length<m
       ·have e1:decide ((A.length:Int)<(m:Int))=true:=by simp;omega
        go_wp2_with fail;refine(Af p D n b 3 _ AB D9.out.K).mono ?_;rintro e u7⟨y,rfl,y0,y1,f,c⟩;have B:=hxy (D9.out.fw f c);have Y:=hxy (Ct N9.out f L.out.2.2);clear f c;go_wp2_with fail;go_meet;exact⟨_,rfl,fun _=>h4,B.out,Y.out⟩
       ·have e1:decide ((A.length:Int)<(m:Int))=false:=by simp;omega
        go_wp2_with fail;go_meet;exact⟨_,rfl,(by intro e;cases e),D9.out,N9.out⟩
      case rest=>
      obtain⟨zz,rfl,aF,an,aG⟩:=hcut;have B:=hxy an;have Y:=hxy aG;clear an aG D9 N9;generalize wc=u7 at B Y⊢;cases zz with
      |false=>
       go_wp2_with fail;go_meet;exact⟨rfl,C,ow am.out,B.out,Y.out⟩
      |true=>
       have h4:=aF rfl;clear aF;obtain⟨c0,c1,c2,c3,c4,c5,cf,cl⟩:=Y.out.cells;go_wp2_with fail;go_meet;refine⟨rfl,{C with h:=(A.length:Int)},Or.inr ?_,B.out.put M L.out.1 L.out.2.1 _ _,BG Y.out 3 _⟩;have:=am.out;unfold tK at this;exact⟨this.1,this.2.1,this.2.2.1,by show(0:Int)<=A.length;omega,by show(A.length:Int)<m;omega,this.2.2.2.2.2⟩
    case rest=>
    obtain⟨rfl,C,gx,d8,n8⟩:=hcut;have J:=hxy d8;have N8:=hxy n8;have aH:=hxy gx;clear d8 n8 D7 N7 gx Ga;generalize wc=u5 at J N8⊢;obtain⟨ra,aP,aO⟩:=Cf J.out.R;subst aO;obtain⟨x0,x1,xf,xz⟩:=J.out.cells;obtain⟨c0,c1,c2,c3,c4,c5,cf,cl⟩:=N8.out.cells;have ab:∀o,w.heap.size<=(u5.alloc o).heap.size:=fun o=>(J.out.below (BJ.alloc BQ o)).F.size
    have aa:Hid (∀j y,(Wi C)[j]?=some y->(u5.alloc (.cells #[Vi C.k,.bool C.s,Vi C.m,Vi C.h,Vi C.lo,Vi C.hi] 47)).cell? ((⟨u5.heap.size,0,none⟩:Addr).add j)=some y):=Fq u5 _ _;have OA:Hid (∀o,(u5.alloc o).ownsRow w.heap.size 47 6 (.slice ra A.length aP) A.length (A.flatMap Wi)):=fun o=>(J.out.below (BJ.alloc BQ o)).R
    go_wp2_with(first|(at_builtin;refine wpList_append_own_at _ rfl _ _ 24 rfl w.heap.size 47 iV _ 6 48 Tryz.underlying24 ae.out.1 ae.out.2.1 ae.out.2.2.1 ae.out.2.2.2 rfl Ad _ _ _ rfl (OA.out _) ⟨u5.heap.size,0,none⟩ 1 1 (Wi C) rfl rfl aa.out ?c2 ?c3 ?c4 (ab _) ?_))
    case c2=>simp[Wi,Value.oneCell']
    case c3=>unfold maxLen;omega
    case c4=>omega
    intro v' u9 E l _ _;obtain⟨ua,ac,ba⟩:∃y,u5.alloc (.cells #[Vi C.k,.bool C.s,Vi C.m,Vi C.h,Vi C.lo,Vi C.hi] 47)=y/\Bw u5 y:=⟨_,rfl,Ai⟩
    rw[ac]at l;have ah:=hxy ((J.out.below ba).growR (x:=C) l E);have I:=Be (J.out.below ba).X l (Ar (J.out.below ba).X (J.out.below ba).R Ad);have z0:=(AJ I 1).trans rfl;have zf:=CP I;have zl:=Bp I;obtain⟨a3,aS,rfl⟩:=Cf E;clear E l ba ac I J N8 x0 x1 xf xz c0 c1 c2 c3 c4 c5 cf cl OA aa ab;go_wp2_with fail;go_roundw
    case rel=>exact⟨_,A++[C],AX,by simp;omega,(fun h Q=>by
     rcases List.mem_append.1 Q with Q|Q
     ·exact aj.out h Q
     ·obtain rfl:=List.mem_singleton.1 Q
      exact aH.out),ah.out⟩
    case measure=>simp[intOf];omega
structure MX(w:World)(p:Nat)(ao:Option Addr)(n cap:Nat)(bA cA:Nat)(V:Nat->VV)(z c:Int)(bb r q:Nat)(x:IV)(u:World):Prop where
 I:IW w p ao n cap r q x u
 A:V3 u bb 31 (Vs bA 8 cA) (Vi z) (Vi c)
 G:Ak u bA (8*6) (vF V)
 o1:w.heap.size=bb
 o2:bb<r
 o3:r<q
 o4:bA<w.heap.size
 o5:bA≠p
section
variable{w:World}{p:Nat}{ao:Option Addr}{n cap:Nat}{bA cA:Nat}{V:Nat->VV}{z c:Int}{bb r q:Nat}{x:IV}{u u':World}
theorem MX.fw(h:MX w p ao n cap bA cA V z c bb r q x u)(f:Fw p u u')(k:CJ u' p ao n cap):MX w p ao n cap bA cA V z c bb r q x u':=
 ⟨h.I.fw f k,Ct h.A f (by have:=h.I.pw;have:=h.o1;omega),f.arr h.G h.o5,h.o1,h.o2,h.o3,h.o4,h.o5⟩
theorem MX.below(h:MX w p ao n cap bA cA V z c bb r q x u)(f:Below u.heap.size u u'):MX w p ao n cap bA cA V z c bb r q x u':=h.fw (.of_below f) (h.I.K.below f)
theorem MX.set(h:MX w p ao n cap bA cA V z c bb r q x u){y:IV}{j:Nat}(a:IW w p ao n cap r q y (u.setCell (Va q j) v)):MX w p ao n cap bA cA V z c bb r q y (u.setCell (Va q j) v):=by
 have b:=h.o1;have d:=h.o2;have e:=h.o3;have k:=h.o4;exact⟨a,h.A.put AB _ _,h.G.other (by show q≠bA;omega) _,b,d,e,k,h.o5⟩
theorem MX.acells(h:MX w p ao n cap bA cA V z c bb r q x u):u.cell? (Va bb 0)=some (Vs bA 8 cA)/\bb<u.heap.size/\bA<u.heap.size:=⟨h.A.cells.1,h.A.lt,h.G.lt⟩
end
theorem MS(p:Nat)(C:Option Addr)(n l:Nat)(D L:Nat)(V:Nat->VV)(z c:Int)(w:World)(hc:CJ w p C n l)(hA:Ak w D (8*6) (vF V))(hp:D≠p):
 Ks 121 #[Vq p,.agg #[Vs D 8 L,Vi z,Vi c]] w fun e w'=>∃x:IV,e=.returned (.agg x.c)/\Fw p w w'/\CJ w' p C n l:=by
 have HC:=hxy hc;have HA:=hxy hA;have lp:=hc.lt;have lA:=hA.lt;clear hc hA;go_enter Tryz.func121,Tryz.ntmps121;go_wp2_with fail;obtain⟨u0,ak,b0,pa,pr⟩:∃y,(w.alloc (.cells #[Vs D 8 L,Vi z,Vi c] 31)).alloc (.cells #[Vi 0,Vi 0,Vi 0,Vi 0,Vi 0,Vi 0] 99)=y/\Bw w y/\V3 y w.heap.size 31 (Vs D 8 L) (Vi z) (Vi c)/\Ib y (w.heap.size+1) ⟨0,0,0,0,0,0⟩:=by
  have e1:(w.alloc (.cells #[Vs D 8 L,Vi z,Vi c] 31)).heap.size=w.heap.size+1:=AX;refine⟨_,rfl,(Ai).alloc AX _,(V3.new _ _ _ _ _).below Ai,?_⟩;rw[<-e1];exact Az _ _
 rw[ak];refine(KS p C n l 21 28 _ AB AB AB (HC.below b0)).mono ?_;rintro e u1⟨x,rfl,ap,f,k⟩;have B1:=hxy ((Fw.of_below b0).trans f);have PA:Hid (V3 u1 w.heap.size 31 (Vs D 8 L) (Vi z) (Vi c)):=Ct pa f AB;have PR:Hid (Ib u1 (w.heap.size+1) ⟨0,0,0,0,0,0⟩):=pr.fw f AB;have GA:=hxy (f.arr (HA.below b0 lA) hp);have K1:=hxy k;have af:=hxy ap;clear ak b0 pa pr f k ap HC HA;unfold IV.c;go_upto_region 2 with fail;obtain⟨u2,al,m2⟩:∃y,u1.alloc (.cells #[Vi x.o,Vi x.d,Vi x.a,Vi x.b,Vi x.i,Vi x.h] 99)=y/\MX w p C n l D L V z c w.heap.size (w.heap.size+1) u1.heap.size x y:=by
  have bn:Bw u1 (u1.alloc (.cells #[Vi x.o,Vi x.d,Vi x.a,Vi x.b,Vi x.i,Vi x.h] 99)):=Ai;have lr:=PR.lt;exact⟨_,rfl,⟨B1.trans (.of_below bn),K1.below bn,PR.below bn,Az _ _,lp,AB,AB,AB,af⟩,PA.below bn,GA.below bn GA.lt,rfl,AB,AB,lA,hp⟩
 rw[al];obtain⟨bb,ac⟩:=Au w.heap.size;obtain⟨r,hr⟩:=Au (w.heap.size+1);obtain⟨q,hq⟩:=Au u1.heap.size;have M2:Hid (MX w p C n l D L V z c bb r q x u2):=by rw[<-ac,<-hr,<-hq];exact m2
 rw[hq,hr,ac];clear al m2 ac hr hq B1 PA PR GA K1 af lA;go_wp2_with fail;refine(Jz p C n l _ M2.I.K).mono ?_;rintro e u3⟨y,rfl,y0,y8,f,k⟩;have M3:=hxy (M2.fw f k);clear f k M2;go_upto_block 0 with fail;go_cut [6](fun s6 wx=>∃j:Nat,s6=Vi (j:Int)/\j<8/\MX w p C n l D L V z c bb r q x wx)
 case first=>
  go_wp2_with fail;go_loopw [6,7](fun rv kv wr=>∃(k j:Nat),rv=Vi (j:Int)/\kv=Vi (k:Int)/\k<=8/\j<8/\MX w p C n l D L V z c bb r q x wr)(fun _ kv _=>8-(intOf kv).toNat)
  case atStart=>exact⟨0,y.toNat,by rw[show(y.toNat:Int)=y by omega],rfl,AB,AB,M3⟩
  case round=>
   clear M3;obtain⟨k,j,rfl,rfl,hk,hj,A⟩:=hrel;have B:=hxy A;clear A;by_cases au:k<8
   rotate_left
   ·have e1:decide ((k:Int)<8)=false:=by simp;omega
    go_wp2_with fail;go_meet;exact⟨j,rfl,hj,B⟩
   have e1:decide ((k:Int)<8)=true:=by simp;omega
   have a0:=B.acells;obtain⟨g0,_,_,_,_,_⟩:=Un B.G hj;have ag:(j:Int)<8:=AB;by_cases aa:(V j).k=1
   ·have e2:((V j).k !=1)=false:=by simp[aa]
    have av:=hxy aa;clear aa;go_wp2_with fail;go_meet;exact⟨j,rfl,hj,B⟩
   ·have e2:((V j).k !=1)=true:=by simp[aa]
    go_wp2_with fail;go_roundw
    case rel=>exact⟨k+1,(j+1)%8,by congr 1,by go_num,AB,AB,B⟩
    case measure=>simp[intOf];omega
 case rest=>
 clear M3 y0 y8;obtain⟨j,rfl,hj,A⟩:=hcut;have B:=hxy A;clear A;generalize wc=u4 at B⊢;have a0:=B.acells;obtain⟨_,_,_,g3,_,_⟩:=Un B.G hj;have ag:(j:Int)<8:=AB;obtain⟨M,N,O,J,Q,S,U,Y⟩:=B.I.X.cells;have ay:q≠bb:=by have:=B.o2;have:=B.o3;omega
 have ax:q≠D:=by have:=B.o1;have:=B.o2;have:=B.o3;have:=B.o4;omega
 go_upto_region 9 with fail;obtain⟨u5,am,m5⟩:∃y,(u4.setCell (Va q 2) (Vi (j:Int))).setCell (Va q 5) (Vi (V j).h)=y/\MX w p C n l D L V z c bb r q {x with a:=(j:Int),h:=(V j).h} y:=⟨_,rfl,by
  have s1:=B.set (B.I.setA (j:Int));exact s1.set (s1.I.setH (V j).h)⟩
 rw[am];obtain⟨x5,an⟩:∃y:IV,{x with a:=(j:Int),h:=(V j).h}=y:=⟨_,rfl⟩
 rw[an]at m5;have M5:=hxy m5;clear am m5 an B a0 g3 M N O J Q S U Y;obtain⟨M,N,O,J,Q,S,U,Y⟩:=M5.I.X.cells;go_upto_if 40 with fail;go_cut [5](fun s5 wx=>s5=Vq q/\∃x6,MX w p C n l D L V z c bb r q x6 wx)
 case first=>
  by_cases ho:x5.o<25
  ·go_wp2_with fail
   refine(Af p C n l 12 _ AB M5.I.K).mono ?_;rintro e u6⟨i,rfl,i0,i1,f,k⟩;have M6:=hxy (M5.fw f k);clear f k M N O J Q S U Y;obtain⟨M,N,O,J,Q,S,U,Y⟩:=M6.I.X.cells;go_wp2_with fail;go_meet;exact⟨rfl,_,M6.set (M6.I.setI i)⟩
  ·go_wp2_with fail
   go_meet;exact⟨rfl,_,M5⟩
 case rest=>
 clear M5 M N O J Q S U Y;obtain⟨rfl,x6,A⟩:=hcut;have M6:=hxy A;clear A;generalize wc=u6 at M6⊢;obtain⟨M,N,O,J,Q,S,U,Y⟩:=M6.I.X.cells;go_upto_if 46 with fail;go_cut [5](fun s5 wx=>s5=Vq q/\∃x6,MX w p C n l D L V z c bb r q x6 wx)
 case first=>
  by_cases ho:25<=x6.o
  rotate_left
  ·go_wp2_with fail
   go_meet;exact⟨rfl,_,M6⟩
  rw[show decide (25<=x6.o)=true from decide_eq_true ho];clear ho;go_wp2_with fail;clear M N O J Q S U Y;go_loopw [8](fun kv wr=>∃(k:Nat)(x7:IV),kv=Vi (k:Int)/\k<=8/\MX w p C n l D L V z c bb r q x7 wr)(fun kv _=>8-(intOf kv).toNat)
  case atStart=>exact⟨0,x6,rfl,AB,M6⟩
  case round=>
   clear M6;obtain⟨k,x7,rfl,hk,A⟩:=hrel;have M7:=hxy A;clear A;by_cases au:k<8
   rotate_left
   ·have e1:decide ((k:Int)<8)=false:=by simp;omega
    go_wp2_with fail;go_meet;exact⟨rfl,_,M7⟩
   have e1:decide ((k:Int)<8)=true:=by simp;omega
   obtain⟨E,ad,ab⟩:∃E:Nat,x7.b=(E:Int)/\E<8:=⟨x7.b.toNat,by have:=M7.I.rb;omega,by have:=M7.I.rb;omega⟩
   have a0:=M7.acells;obtain⟨M,N,O,J,Q,S,U,Y⟩:=M7.I.X.cells;obtain⟨g0,g1,g2,g3,g4,g5⟩:=Un M7.G ab;rw[ad]at J;have ar:=hxy ad;have ag:(E:Int)<8:=AB;clear ad;go_wp2_with fail;refine(DI _ _ _ _ _ _ _).mono ?_;rintro e y8⟨rfl,hb⟩;have Z:=hxy (M7.below hb);clear hb M7 a0 M N O J Q S U Y g0 g1 g2 g3 g4 g5;obtain⟨A,ai⟩:∃y:Int,AZ ⟨(V E).k,(V E).s,(V E).m,(V E).h,(V E).lo,(V E).hi⟩=y:=⟨_,rfl⟩
   rw[ai];clear ai;have a0:=Z.acells;obtain⟨M,N,O,J,Q,S,U,Y⟩:=Z.I.X.cells;obtain⟨g0,g1,g2,g3,g4,g5⟩:=Un Z.G ab;rw[ar.out]at J;have GO:Hid (MX w p C n l D L V z c bb r q {x7 with b:=((E+1)%8:Nat)} (y8.setCell (Va q 3) (Vi ((E+1)%8:Nat)))):=Z.set (Z.I.setB _ ⟨AB,AB⟩);obtain⟨jm,ah⟩:∃y:Nat,(E+1)%8=y:=⟨_,rfl⟩
   rw[ah]at GO;have ae:Hid (((E:Int)+1)%8=(jm:Int)):=(by omega:((E:Int)+1)%8=(jm:Int))
   clear ah;obtain⟨sc,aj⟩:=Au ((V E).s);rw[aj]at g1;have M9:=hxy Z;clear Z aj;by_cases hm:A<0
   ·have e2:decide (A<0)=true:=by simp;omega
    go_wp2_with fail;go_roundw
    case rel=>exact⟨k+1,{x7 with b:=((E:Int)+1)%8},by go_num,AB,by rw[ae.out];exact GO⟩
    case measure=>simp[intOf];omega
   ·have e2:decide (A<0)=false:=by simp;omega
    cases sc with
    |true=>
     go_wp2_with fail;go_roundw
     case rel=>exact⟨k+1,{x7 with b:=((E:Int)+1)%8},by go_num,AB,by rw[ae.out];exact GO⟩
     case measure=>simp[intOf];omega
    |false=>
     go_wp2_with fail;go_meet;exact⟨rfl,_,M9⟩
 case rest=>
 clear M6 M N O J Q S U Y;obtain⟨rfl,x8,A⟩:=hcut;have Z:=hxy A;clear A;generalize wc=y8 at Z⊢;go_wp2_with fail;refine(Ed p C n l 12 _ AB Z.I.K).mono ?_;rintro e u9⟨b,rfl,f,k⟩;have M9:=hxy (Z.fw f k);clear f k Z;go_upto_if 76 with fail;go_cut [5](fun s5 wx=>s5=Vq q/\∃x6,MX w p C n l D L V z c bb r q x6 wx)
 case first=>
  cases b with
  |false=>
   go_wp2_with fail;go_meet;exact⟨rfl,_,M9⟩
  |true=>
   go_wp2_with fail;refine(Af p C n l 4 _ AB M9.I.K).mono ?_;rintro e u10⟨i,rfl,i0,i1,f,k⟩;have u:=hxy (M9.fw f k);clear f k;obtain⟨M,N,O,J,Q,S,U,Y⟩:=u.I.X.cells;go_wp2_with fail;go_meet;exact⟨rfl,_,u.set (u.I.setH i)⟩
 case rest=>
 clear M9;obtain⟨rfl,x9,A⟩:=hcut;have u:=hxy A;clear A;generalize wc=u10 at u⊢;obtain⟨M,N,O,J,Q,S,U,Y⟩:=u.I.X.cells;obtain⟨b0,b1,b2,b3,b4,b5,bf,bl⟩:=u.I.R.cells;have FF:Hid (∀v0 v1 v2 v3 v4 v5,Fw p w ((((((u10.setCell (Va r 0) v0).setCell (Va r 1) v1).setCell (Va r 2) v2).setCell (Va r 3) v3).setCell (Va r 4) v4).setCell (Va r 5) v5)/\CJ ((((((u10.setCell (Va r 0) v0).setCell (Va r 1) v1).setCell (Va r 2) v2).setCell (Va r 3) v3).setCell (Va r 4) v4).setCell (Va r 5) v5) p C n l):=fun v0 v1 v2 v3 v4 v5=>by
  have hr:=u.I.wr;have hp:p<r:=AB;exact⟨(((((u.I.F.put hr _ _).put hr _ _).put hr _ _).put hr _ _).put hr _ _).put hr _ _,(((((u.I.K.put hp _ _).put hp _ _).put hp _ _).put hp _ _).put hp _ _).put hp _ _⟩
 have aw:=u.I.ne;clear u;go_wp2_with fail;exact mY (.agg x9.c) (by simp[results,Tryz.results121,go_sem,IV.c, *]) ⟨⟨x9,rfl⟩,(FF _ _ _ _ _ _).1,(FF _ _ _ _ _ _).2⟩
def gb:Nat->Nat
 |0=>1
 |d+1=>6+5*gb d
theorem PO:∀d,1<=gb d
 |0=>BQ
 |d+1=>by show 1<=6+5*gb d;omega
def Xt(nH:Nat)(S:Nat->HS)(V0:Nat->VV)(bA m:Nat)(w:World)(p:Nat)(ao:Option Addr)(n cap:Nat)(e:Ending)(w':World):Prop:=
 ∃(g cg:Nat)(xs:List SV)(gA cA:Nat)(V:Nat->VV)(z c:Int),e=.returned (.tuple #[Vs g xs.length cg,.agg #[Vs gA 8 cA,Vi z,Vi c]])/\Wl xs/\xs.length<=m/\w'.ownsRow w.heap.size 117 11 (Vs g xs.length cg) xs.length (Es xs)/\(gA=bA∨w.heap.size<=gA)/\Ak w' gA (8*6) (vF V)/\BK nH S 8 V0 8 V z c=true/\Fw p w w'/\CJ w' p ao n cap
structure Ga(w:World)(p:Nat)(ao:Option Addr)(n cap:Nat)(bH cH nH:Nat)(S:Nat->HS)(bR cR:Nat)(V0:Nat->VV)(bA cA:Nat)(V:Nat->VV)(z c:Int)(bs ba br:Nat)(u:World):Prop where
 F:Fw p w u
 K:CJ u p ao n cap
 sg:u.heap[bs]?=some (.cells #[Vs bH nH cH,Vs bR 8 cR] 26)
 A:V3 u ba 31 (Vs bA 8 cA) (Vi z) (Vi c)
 R:V3 u br 31 (.slice none 0 0) (Vi 0) (Vi 0)
 sc:Ck u bH nH S bR 8 V0
 G:Ak u bA (8*6) (vF V)
 ok:BK nH S 8 V0 8 V z c=true
 lH:nH<=8
 pw:p<w.heap.size
 o1:w.heap.size=bs
 o2:bs<ba
 o3:ba<br
 n1:bH<w.heap.size
 n2:bR<w.heap.size
 n3:bA≠br
 p1:bH≠p
 p2:bR≠p
 p3:bA≠p
section
variable{w:World}{p:Nat}{ao:Option Addr}{n cap:Nat}{bH cH nH:Nat}{S:Nat->HS}{bR cR:Nat}{V0:Nat->VV}{bA cA:Nat}{V:Nat->VV}{z c:Int}{bs ba br:Nat}{u u':World}
theorem Ga.fw(h:Ga w p ao n cap bH cH nH S bR cR V0 bA cA V z c bs ba br u)(f:Fw p u u')(k:CJ u' p ao n cap):Ga w p ao n cap bH cH nH S bR cR V0 bA cA V z c bs ba br u':=by
 have a:=h.pw;have b:=h.o1;have d:=h.o2;have e:=h.o3;exact⟨h.F.trans f,k,Ct h.sg f AB,Ct h.A f AB,Ct h.R f AB,⟨f.arr h.sc.h h.p1,f.arr h.sc.r h.p2⟩,f.arr h.G h.p3,h.ok,h.lH,a,b,d,e,h.n1,h.n2,h.n3,h.p1,h.p2,h.p3⟩
theorem Ga.below(h:Ga w p ao n cap bH cH nH S bR cR V0 bA cA V z c bs ba br u)(f:Below u.heap.size u u'):Ga w p ao n cap bH cH nH S bR cR V0 bA cA V z c bs ba br u':=h.fw (.of_below f) (h.K.below f)
theorem Ga.put(h:Ga w p ao n cap bH cH nH S bR cR V0 bA cA V z c bs ba br u)(s:br<q)(o:bA≠q)(j:Nat)(v:Value):Ga w p ao n cap bH cH nH S bR cR V0 bA cA V z c bs ba br (u.setCell (Va q j) v):=by
 have e:=h.pw;have k:=h.o1;have l:=h.o2;have m:=h.o3;have b:=h.n1;have d:=h.n2;exact⟨h.F.put AB _ _,h.K.put AB _ _,Ao h.sg AB _ _,Ao h.A AB _ _,Ao h.R AB _ _,⟨h.sc.h.other (by show q≠bH;omega) _,h.sc.r.other (by show q≠bR;omega) _⟩,h.G.other (by show q≠bA;omega) _,h.ok,h.lH,e,k,l,m,b,d,h.n3,h.p1,h.p2,h.p3⟩
theorem Ga.put6(h:Ga w p ao n cap bH cH nH S bR cR V0 bA cA V z c bs ba br u)(b:br<q)(a:bA≠q)(d e j k l m:Value):Ga w p ao n cap bH cH nH S bR cR V0 bA cA V z c bs ba br (FC u q d e j k l m):=
 (((((h.put b a _ _).put b a _ _).put b a _ _).put b a _ _).put b a _ _).put b a _ _
theorem Ga.cells(h:Ga w p ao n cap bH cH nH S bR cR V0 bA cA V z c bs ba br u):(u.cell? (Va bs 0)=some (Vs bH nH cH)/\u.cell? (Va bs 1)=some (Vs bR 8 cR))/\(u.cell? (Va ba 0)=some (Vs bA 8 cA)/\u.cell? (Va ba 1)=some (Vi z)/\u.cell? (Va ba 2)=some (Vi c))/\bs<u.heap.size/\ba<u.heap.size:=
 ⟨⟨(AJ h.sg 0).trans rfl,(AJ h.sg 1).trans rfl⟩,h.A.cells,Bp h.sg,h.A.lt⟩
end
theorem Rx(w:World){U:Option Addr}{Y:Nat}{A M o:Nat}{S:Nat->HS}{D O:Nat}{V0:Nat->VV}{K F:Nat}{V:Nat->VV}{z c:Int}(l:CJ w p U n Y)(d:Ck w A o S D 8 V0)(e:Ak w K (8*6) (vF V))(k:BK o S 8 V0 8 V z c=true)(I:A≠p)(J:D≠p)(L:K≠p):
 Ga w p U n Y A M o S D O V0 K F V z c w.heap.size (w.heap.size+1) (w.heap.size+1+1) (((w.alloc (.cells #[Vs A o M,Vs D 8 O] 26)).alloc (.cells #[Vs K 8 F,Vi z,Vi c] 31)).alloc (.cells #[.slice none 0 0,Vi 0,Vi 0] 31)):=by
 have E:=Az w (.cells #[Vs A o M,Vs D 8 O] 26);generalize m:w.alloc (.cells #[Vs A o M,Vs D 8 O] 26)=x at *;have B:x.heap.size=w.heap.size+1:=by rw[<-m];simp
 have C:Bw w x:=by rw[<-m];exact Ai
 have s:=V3.new x 31 (Vs K 8 F) (Vi z) (Vi c);generalize q:x.alloc (.cells #[Vs K 8 F,Vi z,Vi c] 31)=y at *;have N:y.heap.size=w.heap.size+1+1:=by rw[<-q];simp[B]
 have j:Bw x y:=by rw[<-q];exact Ai
 have u:=V3.new y 31 (.slice none 0 0) (Vi 0) (Vi 0);have b:Bw y (y.alloc (.cells #[.slice none 0 0,Vi 0,Vi 0] 31)):=Ai;have a:Bw w (y.alloc (.cells #[.slice none 0 0,Vi 0,Vi 0] 31)):=(C.trans (j.mono AB)).trans (b.mono AB);rw[B]at s;rw[N]at u;have Q:=e.lt;exact⟨.of_below a,l.below a,Ac (Ac E j) b,s.below b,u,d.below a,e.below a e.lt,k,(FR k).2.1,l.lt,rfl,AB,AB,d.h.lt,d.r.lt,AB,I,J,L⟩
theorem GI{w:World}(h:Fw p w u)(a:w.heap.size<=b)(x y z:Value):Fw p w (((u.setCell (Va b 0) x).setCell (Va b 1) y).setCell (Va b 2) z):=((h.put a _ _).put a _ _).put a _ _
theorem Ez{Y:Nat}{U:Option Addr}(h:CJ u p U n Y)(a:p<b)(x y z:Value):CJ (((u.setCell (Va b 0) x).setCell (Va b 1) y).setCell (Va b 2) z) p U n Y:=((h.put a _ _).put a _ _).put a _ _
theorem EI{g:Nat}{f:Nat->Value}(h:Ak u g n f)(a:g≠b)(x y z:Value):Ak (((u.setCell (Va b 0) x).setCell (Va b 1) y).setCell (Va b 2) z) g n f:=((h.other (fun e=>a e.symm) _).other (fun e=>a e.symm) _).other (fun e=>a e.symm) _
theorem ER{l:Nat}(h:u.ownsRow l e s v n d)(a:v.ownBlock≠some b)(x y z:Value):(((u.setCell (Va b 0) x).setCell (Va b 1) y).setCell (Va b 2) z).ownsRow l e s v n d:=CV (CV (CV h a _ _) a _ _) a _ _
theorem Tn.set3{Q:World}(h:Tn (some b) u Q)(x y z:Value):Tn (some b) u (((Q.setCell (Va b 0) x).setCell (Va b 1) y).setCell (Va b 2) z):=fun q d c=>by
 have a:q≠b:=fun e=>c (by rw[e])
 rw[Below.heap_setCell _ ⟨b,2,none⟩ z q a,Below.heap_setCell _ ⟨b,1,none⟩ y q a,Below.heap_setCell _ ⟨b,0,none⟩ x q a];exact h q d c
def Og(x:IV):SV:=⟨1,x.o,x.d,x.a,x.b,x.i,x.h,0,0,0,0⟩
theorem ZY(x:IV):Wl [Og x]:=.ins rfl rfl rfl .nil
theorem Gs(p:Nat)(Y:Option Addr)(n C:Nat)(bH cH Q:Nat)(S:Nat->HS)(bR cR:Nat)(V0:Nat->VV)(I U:Nat)(V:Nat->VV)(z c ai:Int)(w:World)(hc:CJ w p Y n C)(h1:Ck w bH Q S bR 8 V0)(h2:Ak w I (8*6) (vF V))(h3:BK Q S 8 V0 8 V z c=true)(p1:bH≠p)(p2:bR≠p)(p3:I≠p):
 Ks 87 #[Vq p,.agg #[Vs bH Q cH,Vs bR 8 cR],.agg #[Vs I 8 U,Vi z,Vi c],Vi ai] w (Xt Q S V0 I 1 w p Y n C):=by
 have X0:Hid (Ga w p Y n C bH cH Q S bR cR V0 I U V z c w.heap.size (w.heap.size+1) (w.heap.size+1+1) (((w.alloc (.cells #[Vs bH Q cH,Vs bR 8 cR] 26)).alloc (.cells #[Vs I 8 U,Vi z,Vi c] 31)).alloc (.cells #[.slice none 0 0,Vi 0,Vi 0] 31))):=Rx w hc h1 h2 h3 p1 p2 p3;have LA:=hxy h2.lt;clear hc h1 h2 h3 p1 p2 p3;go_enter Tryz.func87,Tryz.ntmps87;go_upto_region 1 with fail;obtain⟨u,hu⟩:=Au (((w.alloc (.cells #[Vs bH Q cH,Vs bR 8 cR] 26)).alloc (.cells #[Vs I 8 U,Vi z,Vi c] 31)).alloc (.cells #[.slice none 0 0,Vi 0,Vi 0] 31));rw[hu]at X0⊢;obtain⟨bs,ag⟩:=Au w.heap.size;obtain⟨ba,am⟩:=Au (w.heap.size+1);obtain⟨m,an⟩:=Au (w.heap.size+1+1);have X0:Hid (Ga w p Y n C bH cH Q S bR cR V0 I U V z c bs ba m u):=by rw[<-ag,<-am,<-an];exact X0
 rw[an,am,ag];have BO:Hid (w.heap.size=bs/\bs<ba/\ba<m):=⟨ag,AB,AB⟩
 clear hu ag am an;go_wp2_with fail;go_loopw [10](fun kv wr=>∃(k:Nat),kv=Vi (k:Int)/\k<=6/\Ga w p Y n C bH cH Q S bR cR V0 I U V z c bs ba m wr)(fun kv _=>6-(intOf kv).toNat)
 case atStart=>exact⟨0,rfl,AB,X0⟩
 case round=>
  clear X0;obtain⟨k,rfl,hk,x⟩:=hrel;have X:=hxy x;clear x;by_cases aT:k<6
  rotate_left
  ·have ay:¬(k:Int)<6:=AB
   go_upto_region 11 with fail;have j0:∀j,Tn (some m) wr j->j.cell? (Va ba 0)=some (Vs I 8 U):=fun j h=>(X.A.tn h (by have:=X.o3;simp;omega)).cells.1
   have j1:∀j,Tn (some m) wr j->j.cell? (Va ba 1)=some (Vi z):=fun j h=>(X.A.tn h (by have:=X.o3;simp;omega)).cells.2.1
   have j2:∀j,Tn (some m) wr j->j.cell? (Va ba 2)=some (Vi c):=fun j h=>(X.A.tn h (by have:=X.o3;simp;omega)).cells.2.2
   refine wp_region_held_drew (S:=fun j=>Tn (some m) wr j) AV (Tn.of BJ.drew) (fun _=>?_);refine AU 1 ?_;have s:Bw wr wr.drew:=BJ.drew;generalize wr.drew=J at s⊢;refine AO 0 rfl (fun KK hK=>?_);go_simp;obtain⟨t1,ac,b1,o1⟩:∃y,J.alloc (.cells #[] 117)=y/\Bw J y/\y.ownsRow J.heap.size 117 11 (Vs J.heap.size 0 0) 0 []:=⟨_,rfl,Ai,World.ownsRow_lit J #[] 0 BQ (by unfold maxLen;omega) rfl⟩
   rw[ac];have D:=s.trans (b1.mono s.size);refine hK.out _ _ (Tn.of D) (fun _=>?_);clear hK KK;try go_frame
   refine AU 2 ?_;have B:=X.below D;obtain⟨r0,r1,r2⟩:=B.R.cells;have rf:=B.R.free;have rl:=B.R.lt;have ap:m<J.heap.size:=by have:=s.size;have:=X.R.lt;omega
   have HO:Hid (t1.ownsRow w.heap.size 117 11 (Vs J.heap.size 0 0) 0 []):=ES o1 (by have:=X.F.size;have:=s.size;omega);obtain⟨nb,ab⟩:=Au J.heap.size;rw[ab]at HO ap⊢;have r:Hid (Fw p w t1/\CJ t1 p Y n C/\Ak t1 I (8*6) (vF V)/\BK Q S 8 V0 8 V z c=true/\I≠m/\w.heap.size<=m/\p<m):=⟨B.F,B.K,B.G,B.ok,B.n3,by have:=BO.out;omega,by have:=BO.out;have:=B.pw;omega⟩
   have TT:Hid (Tn (some m) wr t1):=Tn.of D;clear s ac b1 o1 D B ab j0 j1 j2 X;refine AO 3 rfl (fun KK hK=>?_);go_simp;refine hK.out _ _ (TT.set3 _ _ _) (fun _=>?_);clear hK KK;refine wpAnyH_done AV ?_ _;go_wp2_with fail;refine mY (.tuple #[Vs nb 0 0,.agg #[Vs I 8 U,Vi z,Vi c]]) (by simp[results,Tryz.results87,go_sem, *]) ⟨nb,0,[],I,U,V,z,c,rfl,.nil,AX,?_,Or.inl rfl,?_,r.2.2.2.1,?_,?_⟩
   ·exact ER HO (by intro e;have:nb=m:=Option.some.inj e;omega) _ _ _
   ·exact EI r.2.2.1 r.2.2.2.2.1 _ _ _
   ·exact GI r.1 r.2.2.2.2.2.1 _ _ _
   ·exact Ez r.2.1 r.2.2.2.2.2.2 _ _ _
  have ay:(k:Int)<6:=AB;go_wp2_with fail;refine(KS p Y n C 1 20 _ AB AB AB X.K).mono ?_;rintro e y1⟨x,rfl,_,f,k'⟩;have B:=hxy (X.fw f k');clear f k' X;unfold IV.c;go_upto_region 5 with fail;obtain⟨y2,aD,b2⟩:∃y,y1.alloc (.cells #[Vi x.o,Vi x.d,Vi x.a,Vi x.b,Vi x.i,Vi x.h] 99)=y/\Bw y1 y:=⟨_,rfl,Ai⟩
  have i2:Ib (y1.alloc (.cells #[Vi x.o,Vi x.d,Vi x.a,Vi x.b,Vi x.i,Vi x.h] 99)) y1.heap.size x:=Az _ _;rw[aD]at i2⊢;have X2:=hxy (B.below b2);have aC:=B.R.lt;have aw:I≠y1.heap.size:=by have:=B.G.lt;omega
  obtain⟨q,hq⟩:=Au y1.heap.size;rw[hq]at i2 aC aw⊢;have I2:=hxy i2;have aB:q≠p:=by have:=B.pw;have:=BO.out;omega
  clear aD b2 i2 hq B;go_wp2_with fail;refine(Ed p Y n C 3 _ AB X2.K).mono ?_;rintro e y3⟨b,rfl,f,k'⟩;have N:=hxy (X2.fw f k');have I3:=hxy (I2.fw f aB);clear f k' X2 I2;go_upto_if 21 with fail;go_cut [11](fun aM wx=>aM=Vq q/\∃l,Ga w p Y n C bH cH Q S bR cR V0 I U V z c bs ba m wx/\Ib wx q l)
  case first=>
   cases b with
   |false=>
    go_wp2_with fail;go_meet;exact⟨rfl,x,N,I3⟩
   |true=>
    obtain⟨_,⟨a0,a1,a2⟩,ak,al⟩:=N.cells;go_wp2_with fail;refine(MS p Y n C I U V z c _ N.K N.G N.p3).mono ?_;rintro e y4⟨l,rfl,f,k'⟩;have X4:=hxy (N.fw f k');have I4:=hxy (I3.fw f aB);clear f k' a0 a1 a2 ak al;unfold IV.c;obtain⟨c0,c1,c2,c3,c4,c5,cf,cl⟩:=I4.cells;go_wp2_with fail;go_meet;exact⟨rfl,l,X4.put6 aC aw _ _ _ _ _ _,Nc I4 _ _ _ _ _ _⟩
  case rest=>
  clear N I3;obtain⟨rfl,l,x3,i3⟩:=hcut;have N:=hxy x3;have I3:=hxy i3;clear x3 i3;generalize wc=y3 at N I3⊢;obtain⟨⟨s0,s1⟩,⟨a0,a1,a2⟩,ak,al⟩:=N.cells;obtain⟨c0,c1,c2,c3,c4,c5,cf,cl⟩:=I3.cells;go_wp2_with fail;refine(Cw bH cH Q S bR cR 8 V0 I U 8 V z c l.o l.d l.a l.b l.i l.h y3 (by have:=N.lH;omega) AB AB N.sc N.G).mono ?_;rintro e y4⟨E,V2,z2,av,aj,aA,_,hb⟩;have X4:=hxy (N.below hb);have I4:=hxy (I3.below hb);have aU:=I3.lt;have aF:=hxy aA;obtain⟨va,vn,vc,zz,cc,ah⟩:∃(va:Option Addr)(vn vc:Nat)(zz cc:Int),Hid (e=.returned (.agg #[Vi E,.slice va vn vc,Vi zz,Vi cc])/\(E=0->zz=z2/\cc=av/\∃g cg,y3.heap.size<=g/\va=some ⟨g,0,none⟩/\vn=8/\vc=cg/\Ak y4 g (8*6) (vF V2))):=by
   rcases aj with⟨aJ,h⟩|⟨h0,g,cg,h1,h2,h3⟩
   ·exact⟨none,0,0,0,0,h,fun e=>absurd e aJ⟩
   ·subst h0
    exact⟨_,_,_,_,_,h2,fun _=>⟨rfl,rfl,g,cg,h1,rfl,rfl,rfl,h3⟩⟩
  obtain⟨he,ae⟩:=ah.out;subst he;have ae:=hxy ae;clear aj aA hb ah N I3 s0 s1 a0 a1 a2 ak al c0 c1 c2 c3 c4 c5 cf cl;go_upto_region 8 with fail;obtain⟨L,aE,b5⟩:∃y,y4.alloc (.cells #[Vi E,.slice va vn vc,Vi zz,Vi cc] 147)=y/\Bw y4 y:=⟨_,rfl,Ai⟩
  have n5:=Az y4 (.cells #[Vi E,.slice va vn vc,Vi zz,Vi cc] 147);rw[aE]at n5⊢;have X5:=hxy (X4.below b5);have M:=hxy (I4.below b5);have ar:Hid (E=0->zz=z2/\cc=av/\∃g cg,y3.heap.size<=g/\va=some ⟨g,0,none⟩/\vn=8/\vc=cg/\Ak L g (8*6) (vF V2)):=fun e=>by
   obtain⟨h1,h2,g,cg,h3,h4,h5,h6,h7⟩:=ae.out e;exact⟨h1,h2,g,cg,h3,h4,h5,h6,h7.below b5 h7.lt⟩
  obtain⟨nt,az⟩:=Au y4.heap.size;have aK:=X4.R.lt;rw[az]at n5 aK⊢;have N5:=hxy n5;clear aE b5 n5 az X4 I4 ae;go_cut [13](fun aN wx=>∃b:Bool,aN=.bool b/\wx=L)
  case first=>
   obtain⟨c0,c1,c2,c3,c4,c5,cf,cl⟩:=M.cells;by_cases O:l.o=23
   ·have e1:(l.o==23)=true:=by simp[O]
    clear O;go_wp2_with fail;go_meet;exact⟨_,rfl,rfl⟩
   have e1:(l.o==23)=false:=by simp[O]
   by_cases Z:l.o=24
   ·have e2:(l.o==24)=true:=by simp[Z]
    clear O Z;go_wp2_with fail;go_meet;exact⟨_,rfl,rfl⟩
   have e2:(l.o==24)=false:=by simp[Z]
   by_cases af:l.o=27
   ·have e3:(l.o==27)=true:=by simp[af]
    clear O Z af;go_wp2_with fail;go_meet;exact⟨_,rfl,rfl⟩
   have e3:(l.o==27)=false:=by simp[af]
   clear O Z af;go_wp2_with fail;go_meet;exact⟨_,rfl,rfl⟩
  case rest=>
  obtain⟨aR,rfl,ad⟩:=hcut;rw[ad];clear ad;go_upto_region 9 with fail;go_cut [58](fun aO wx=>∃b:Bool,aO=.bool b/\(b=true->E=0)/\wx=L)
  case first=>
   obtain⟨c0,c1,c2,c3,c4,c5,cf,cl⟩:=M.cells;have v0:=(AJ N5 0).trans rfl;have vl:=Bp N5;by_cases h0:E=0
   ·have e1:(E==0)=true:=by simp[h0]
    have au:=hxy h0;clear h0;obtain⟨d1,aS⟩:=Au ((l.d !=ai));cases d1 with
    |true=>
     go_wp2_with fail;go_meet;exact⟨_,rfl,fun _=>au.out,rfl⟩
    |false=>
     go_wp2_with fail;go_meet
     exact⟨_,rfl,fun _=>au.out,rfl⟩
   ·have e1:(E==0)=false:=by simp[h0]
    go_wp2_with fail
    go_meet
    exact⟨_,rfl,(by intro e;cases e),rfl⟩
  case rest=>
  obtain⟨aH,rfl,aa,ad⟩:=hcut
  rw[ad]
  clear ad
  cases aH with
  |false=>
   clear aa
   go_wp2_with fail
   go_roundw
   case rel=>exact⟨k+1,by go_num,AB,X5⟩
   case measure=>simp[intOf];omega
  |true=>
   have h0:=aa rfl
   subst h0
   clear aa
   obtain⟨hz,aI,g,cg,hg,rfl,rfl,rfl,hG⟩:=ar.out rfl
   subst hz aI
   have aG:Hid (BK Q S 8 V0 8 V2 zz cc=true):=aF.out rfl
   have ax:g≠m:=AB
   have HG:=hxy hG
   have aP:m≠q:=AB
   have aQ:m≠nt:=AB
   go_upto_region 10 with fail
   have c0:∀j,Tn (some m) L j->j.cell? (Va q 0)=some (Vi l.o):=fun j h=>(World.cell?_of_block (a:=Va q 0) (h q M.lt (by simp;omega))).trans M.cells.1
   have c1:∀j,Tn (some m) L j->j.cell? (Va q 1)=some (Vi l.d):=fun j h=>(World.cell?_of_block (a:=Va q 1) (h q M.lt (by simp;omega))).trans M.cells.2.1
   have c2:∀j,Tn (some m) L j->j.cell? (Va q 2)=some (Vi l.a):=fun j h=>(World.cell?_of_block (a:=Va q 2) (h q M.lt (by simp;omega))).trans M.cells.2.2.1
   have c3:∀j,Tn (some m) L j->j.cell? (Va q 3)=some (Vi l.b):=fun j h=>(World.cell?_of_block (a:=Va q 3) (h q M.lt (by simp;omega))).trans M.cells.2.2.2.1
   have c4:∀j,Tn (some m) L j->j.cell? (Va q 4)=some (Vi l.i):=fun j h=>(World.cell?_of_block (a:=Va q 4) (h q M.lt (by simp;omega))).trans M.cells.2.2.2.2.1
   have c5:∀j,Tn (some m) L j->j.cell? (Va q 5)=some (Vi l.h):=fun j h=>(World.cell?_of_block (a:=Va q 5) (h q M.lt (by simp;omega))).trans M.cells.2.2.2.2.2.1
   have v1:∀j,Tn (some m) L j->j.cell? (Va nt 1)=some (Vs g 8 vc):=fun j h=>(World.cell?_of_block (a:=Va nt 1) (h nt (Bp N5) (by simp;omega))).trans ((AJ N5 1).trans rfl)
   have v2:∀j,Tn (some m) L j->j.cell? (Va nt 2)=some (Vi zz):=fun j h=>(World.cell?_of_block (a:=Va nt 2) (h nt (Bp N5) (by simp;omega))).trans ((AJ N5 2).trans rfl)
   have v3:∀j,Tn (some m) L j->j.cell? (Va nt 3)=some (Vi cc):=fun j h=>(World.cell?_of_block (a:=Va nt 3) (h nt (Bp N5) (by simp;omega))).trans ((AJ N5 3).trans rfl)
   refine wp_region_held_drew (S:=fun j=>Tn (some m) L j) AV (Tn.of BJ.drew) (fun _=>?_)
   refine EX [0,1,3,4] ?_
   have s:Bw L L.drew:=BJ.drew
   generalize L.drew=J at s⊢
   refine AO 2 rfl (fun KK hK=>?_)
   go_simp
   obtain⟨t1,ac,b1,o1⟩:∃y,J.alloc (.cells #[Vi 1,Vi l.o,Vi l.d,Vi l.a,Vi l.b,Vi l.i,Vi l.h,Vi 0,Vi 0,Vi 0,Vi 0] 117)=y/\Bw J y/\y.ownsRow J.heap.size 117 11 (Vs J.heap.size 1 1) 1 (Es [Og l]):=⟨_,rfl,Ai,by rw[Nj];exact World.ownsRow_lit J (RJ (Og l)).toArray 1 BQ (by unfold maxLen;omega) rfl⟩
   rw[ac]
   have D:=s.trans (b1.mono s.size)
   refine hK.out _ _ (Tn.of D) (fun _=>?_)
   clear hK KK
   try go_frame
   refine AU 5 ?_
   have B:=X5.below D
   obtain⟨r0,r1,r2⟩:=B.R.cells
   have rf:=B.R.free
   have rl:=B.R.lt
   have ap:m<J.heap.size:=by have:=s.size;have:=X5.R.lt;omega
   have HO:Hid (t1.ownsRow w.heap.size 117 11 (Vs J.heap.size 1 1) 1 (Es [Og l])):=ES o1 (by have:=X5.F.size;have:=s.size;omega)
   obtain⟨nb,ab⟩:=Au J.heap.size
   rw[ab]at HO ap⊢
   have r:Hid (Fw p w t1/\CJ t1 p Y n C/\Ak t1 g (8*6) (vF V2)/\w.heap.size<=g/\w.heap.size<=m/\p<m):=⟨B.F,B.K,HG.below D HG.lt,by have:=BO.out;omega,by have:=BO.out;omega,by have:=BO.out;have:=B.pw;omega⟩
   have TT:Hid (Tn (some m) L t1):=Tn.of D
   clear s ac b1 o1 D B ab c0 c1 c2 c3 c4 c5 v1 v2 v3 X5 M N5
   refine AO 6 rfl (fun KK hK=>?_)
   go_simp
   refine hK.out _ _ (TT.set3 _ _ _) (fun _=>?_)
   clear hK KK
   refine wpAnyH_done AV ?_ _
   go_wp2_with fail
   refine mY (.tuple #[Vs nb 1 1,.agg #[Vs g 8 vc,Vi zz,Vi cc]]) (by simp[results,Tryz.results87,go_sem, *]) ⟨nb,1,[Og l],g,vc,V2,zz,cc,rfl,ZY l,AX,?_,Or.inr r.2.2.2.1,?_,aG,?_,?_⟩
   ·exact ER HO (by intro e;have:nb=m:=Option.some.inj e;omega) _ _ _
   ·exact EI r.2.2.1 ax _ _ _
   ·exact GI r.1 r.2.2.2.2.1 _ _ _
   ·exact Ez r.2.1 r.2.2.2.2.2 _ _ _
end
end Go.Proofs.YtcjnmdgomocpgaaGreatDoor
