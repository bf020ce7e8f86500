import Derived.Test.YtfpeecaaleijcaaGreatDoorOfCl
import Derived.Test.YtfpeecaaleijcaaGreatDoorOfDrawFlat
import Derived.Test.YtfpeecaaleijcaaGreatDoorOfTransMath
import Derived.Test.YtfpeecaaleijcaaGreatDoorOfValBlock
import Derived.Test.YtfpeecaaleijcaaGreatDoorOfFu5e
set_option maxHeartbeats 16000000
set_option maxRecDepth 20000
namespace Go.Proofs.YtfpeecaaleijcaaGreatDoor
open Go.RowKit
variable {b:Nat}{w:World}
theorem Fw.arr{p:Nat}{w':World}{n:Nat}{f:Nat->Value}(h:Fw p w w')(ha:A9 w b n f)(hn:b≠p):A9 w' b n f:=
 ⟨jI ha.lt h.size,fun i=>(h.frozen ha.lt hn).trans (ha.free i),fun _ hi=>(h.cell ha.lt hn).trans (ha.cell hi)⟩
theorem Fw.alloc{p:Nat}{a b:World}(h:Fw p a b)(o:Obj):Fw p a (b.alloc o):=h.trans (.of_below Ak)
theorem Vb.setLo{x:VV}(h:Vb w b x)(m:Int):Vb (w.setCell (Va b 4) (Vi m)) b {x with lo:=m}:=(A9.set1 h 4 (by omega) _).congr (Jj rfl rfl rfl rfl rfl rfl)
theorem Vb.setHi{x:VV}(h:Vb w b x)(m:Int):Vb (w.setCell (Va b 5) (Vi m)) b {x with hi:=m}:=(A9.set1 h 5 (by omega) _).congr (Jj rfl rfl rfl rfl rfl rfl)
def fG(x:VV):Prop:=x.k=0/\x.h=0/\x.lo=0/\x.hi=0/\ -1<=x.m/\x.m<=1099511627776
def dL(x:VV)(n:Int):Prop:=x.k=1/\x.s=false/\x.m=0/\0<=x.h/\x.h<n/\ -1099511627776<=x.lo/\x.lo<=x.hi/\x.hi<=1099511627776
theorem Nr(p:Nat)(ao:Option Addr)(n cap:Nat)(w:World)(hc:Bj w p ao n cap):
 Calls Tryz.prog 65 #[Vq p] w fun e w'=>∃x:VV,e=.returned x.v/\fG x/\Fw p w w'/\Bj w' p ao n cap:=by
 have lp:=hc.lt;have HC:=hxy hc;clear hc;go_enter Tryz.func65,Tryz.ntmps65;go_wp2_with fail;refine(Dh p ao n cap 2 _ (by omega) (HC.out.below Ak)).mono ?_;rintro e w1⟨s,rfl,f1,k1⟩;have R1:Hid (Vb w1 w.heap.size ⟨0,false,0,0,0,0⟩):=f1.arr (Vb.new w ⟨0,false,0,0,0,0⟩) (by omega);have F1:Hid (Fw p w w1):=((Fw.refl _ _).alloc _).trans f1;have K1:=hxy k1;clear f1 k1 HC;go_wp2_with fail;refine(Aa p ao n cap 6 _ (by omega) (K1.out.below Ak)).mono ?_;rintro e w2⟨k,rfl,k0,k6,f2,k2⟩;have h23:=R1.out.lt;have lp1:p<w1.heap.size:=by omega
 have V2:Hid (Vb w2 w1.heap.size ⟨0,s,-1,0,0,0⟩):=f2.arr (Vb.new w1 ⟨0,s,-1,0,0,0⟩) (by omega);have R2:Hid (Vb w2 w.heap.size ⟨0,false,0,0,0,0⟩):=f2.arr (R1.out.below ((Below.refl w1.heap.size w1).alloc jG _) R1.out.lt) (by omega);have F2:Hid (Fw p w w2):=(F1.out.alloc _).trans f2;have K2:=hxy k2;clear f2 k2 K1 F1 R1;by_cases c3:k<3
 ·go_wp2_with fail
  refine(Aa p ao n cap 20 _ (by omega) K2.out).mono ?_;rintro e w3⟨m,rfl,m0,m1,f3,k3⟩;have V3:Hid (Vb w3 w1.heap.size ⟨0,s,-1,0,0,0⟩):=f3.arr V2.out (by omega);have R3:Hid (Vb w3 w.heap.size ⟨0,false,0,0,0,0⟩):=f3.arr R2.out (by omega);have F3:=hxy (F2.out.trans f3);have K3:=hxy k3;clear f3 k3 V2 R2 F2 K2;obtain⟨v0,v1,v2,v3,v4,v5⟩:=V3.out.cells;have vf:=V3.out.free;have vl:=V3.out.lt;obtain⟨r0,r1,r2,r3,r4,r5⟩:=R3.out.cells;have rf:=R3.out.free;have rl:=R3.out.lt;go_wp2;refine bodyPost_ret (v:=VV.v ⟨0,s,m,0,0,0⟩) (by simp[results,Tryz.results65,go_sem,VV.v, *]) rfl ⟨⟨0,s,m,0,0,0⟩,rfl,⟨rfl,rfl,rfl,rfl,by simp;omega,by simp;omega⟩,((((((F3.out.put (Nat.le_of_lt h23) _ _).put jG _ _).put jG _ _).put jG _ _).put jG _ _).put jG _ _).put jG _ _,((((((K3.out.put lp1 _ _).put lp _ _).put lp _ _).put lp _ _).put lp _ _).put lp _ _).put lp _ _⟩
 ·by_cases c4:k=3
  ·subst c4
   obtain⟨v0,v1,v2,v3,v4,v5⟩:=V2.out.cells;have vf:=V2.out.free;have vl:=V2.out.lt;obtain⟨r0,r1,r2,r3,r4,r5⟩:=R2.out.cells;have rf:=R2.out.free;have rl:=R2.out.lt;go_wp2;refine bodyPost_ret (v:=VV.v ⟨0,s,255,0,0,0⟩) (by simp[results,Tryz.results65,go_sem,VV.v, *]) rfl ⟨⟨0,s,255,0,0,0⟩,rfl,⟨rfl,rfl,rfl,rfl,by simp,by simp⟩,((((((F2.out.put (Nat.le_of_lt h23) _ _).put jG _ _).put jG _ _).put jG _ _).put jG _ _).put jG _ _).put jG _ _,((((((K2.out.put lp1 _ _).put lp _ _).put lp _ _).put lp _ _).put lp _ _).put lp _ _).put lp _ _⟩
  ·by_cases c5:k=4
   ·subst c5
    go_wp2_with fail;refine(Dh p ao n cap 4 _ (by omega) K2.out).mono ?_;rintro e w3⟨q,rfl,f3,k3⟩;have V3:Hid (Vb w3 w1.heap.size ⟨0,s,-1,0,0,0⟩):=f3.arr V2.out (by omega);have R3:Hid (Vb w3 w.heap.size ⟨0,false,0,0,0,0⟩):=f3.arr R2.out (by omega);have F3:=hxy (F2.out.trans f3);have K3:=hxy k3;clear f3 k3 V2 R2 F2 K2;cases q with
    |false=>
     obtain⟨v0,v1,v2,v3,v4,v5⟩:=V3.out.cells;have vf:=V3.out.free;have vl:=V3.out.lt;obtain⟨r0,r1,r2,r3,r4,r5⟩:=R3.out.cells;have rf:=R3.out.free;have rl:=R3.out.lt;go_wp2;refine bodyPost_ret (v:=VV.v ⟨0,s,-1,0,0,0⟩) (by simp[results,Tryz.results65,go_sem,VV.v, *]) rfl ⟨⟨0,s,-1,0,0,0⟩,rfl,⟨rfl,rfl,rfl,rfl,by simp,by simp⟩,((((((F3.out).put jG _ _).put jG _ _).put jG _ _).put jG _ _).put jG _ _).put jG _ _,((((((K3.out).put lp _ _).put lp _ _).put lp _ _).put lp _ _).put lp _ _).put lp _ _⟩
    |true=>
     go_wp2_with fail;refine(Aa p ao n cap 3 _ (by omega) K3.out).mono ?_;rintro e w4⟨m,rfl,m0,m1,f4,k4⟩;have V4:Hid (Vb w4 w1.heap.size ⟨0,s,-1,0,0,0⟩):=f4.arr V3.out (by omega);have R4:Hid (Vb w4 w.heap.size ⟨0,false,0,0,0,0⟩):=f4.arr R3.out (by omega);have F4:=hxy (F3.out.trans f4);have K4:=hxy k4;clear f4 k4 V3 R3 F3 K3;obtain⟨v0,v1,v2,v3,v4,v5⟩:=V4.out.cells;have vf:=V4.out.free;have vl:=V4.out.lt;obtain⟨r0,r1,r2,r3,r4,r5⟩:=R4.out.cells;have rf:=R4.out.free;have rl:=R4.out.lt;go_wp2;refine bodyPost_ret (v:=VV.v ⟨0,s,1099511627776-m,0,0,0⟩) (by simp[results,Tryz.results65,go_sem,VV.v, *]) rfl ⟨⟨0,s,1099511627776-m,0,0,0⟩,rfl,⟨rfl,rfl,rfl,rfl,by simp;omega,by simp;omega⟩,((((((F4.out.put (Nat.le_of_lt h23) _ _).put jG _ _).put jG _ _).put jG _ _).put jG _ _).put jG _ _).put jG _ _,((((((K4.out.put lp1 _ _).put lp _ _).put lp _ _).put lp _ _).put lp _ _).put lp _ _).put lp _ _⟩
   ·skip
    obtain⟨v0,v1,v2,v3,v4,v5⟩:=V2.out.cells;have vf:=V2.out.free;have vl:=V2.out.lt;obtain⟨r0,r1,r2,r3,r4,r5⟩:=R2.out.cells;have rf:=R2.out.free;have rl:=R2.out.lt;go_wp2;refine bodyPost_ret (v:=VV.v ⟨0,s,-1,0,0,0⟩) (by simp[results,Tryz.results65,go_sem,VV.v, *]) rfl ⟨⟨0,s,-1,0,0,0⟩,rfl,⟨rfl,rfl,rfl,rfl,by simp,by simp⟩,((((((F2.out).put jG _ _).put jG _ _).put jG _ _).put jG _ _).put jG _ _).put jG _ _,((((((K2.out).put lp _ _).put lp _ _).put lp _ _).put lp _ _).put lp _ _).put lp _ _⟩
theorem Np(p:Nat)(ao:Option Addr)(n cap:Nat)(hs:Int)(w:World)(hm:1<=hs)(hc:Bj w p ao n cap):
 Calls Tryz.prog 66 #[Vq p,Vi hs] w fun e w'=>∃x:VV,e=.returned x.v/\dL x hs/\Fw p w w'/\Bj w' p ao n cap:=by
 have lp:=hc.lt;have HC:=hxy hc;clear hc;go_enter Tryz.func66,Tryz.ntmps66;go_wp2_with fail;refine(Aa p ao n cap hs _ hm (HC.out.below Ak)).mono ?_;rintro e w1⟨h,rfl,h0,h1,f,c⟩;have R1:Hid (Vb w1 w.heap.size ⟨0,false,0,0,0,0⟩):=f.arr (Vb.new w ⟨0,false,0,0,0,0⟩) (by omega);have F1:Hid (Fw p w w1):=((Fw.refl _ _).alloc _).trans f;have K1:=hxy c;clear f c HC;have h23:=R1.out.lt;have lp1:p<w1.heap.size:=by omega
 go_wp2_with fail;refine(Aa p ao n cap 5 _ (by omega) (K1.out.below Ak)).mono ?_;rintro e w2⟨lo,rfl,l0,l1,f,c⟩;have V2:Hid (Vb w2 w1.heap.size ⟨1,false,0,h,0,0⟩):=f.arr (Vb.new w1 ⟨1,false,0,h,0,0⟩) (by omega);have R2:Hid (Vb w2 w.heap.size ⟨0,false,0,0,0,0⟩):=f.arr (R1.out.below ((Below.refl w1.heap.size w1).alloc jG _) R1.out.lt) (by omega);have F2:Hid (Fw p w w2):=(F1.out.alloc _).trans f;have K2:=hxy c;clear f c K1 F1 R1;obtain⟨v0,v1,v2,v3,v4,v5⟩:=V2.out.cells;have vf:=V2.out.free;have vl:=V2.out.lt;obtain⟨r0,r1,r2,r3,r4,r5⟩:=R2.out.cells;have rf:=R2.out.free;have rl:=R2.out.lt;go_upto_region 3 with fail;obtain⟨w3,hw3,V3,R3,F3,K3⟩:∃v,w2.setCell ⟨w1.heap.size,4,none⟩ (Vi lo)=v/\Hid (Vb v w1.heap.size ⟨1,false,0,h,lo,0⟩)/\Hid (Vb v w.heap.size ⟨0,false,0,0,0,0⟩)/\Hid (Fw p w v)/\Hid (Bj v p ao n cap):=⟨_,rfl,V2.out.setLo lo,A9.other R2.out (by simp;omega) _,F2.out.put (Nat.le_of_lt h23) _ _,K2.out.put lp1 _ _⟩
 rw[hw3];clear hw3 V2 R2 F2 K2 v0 v1 v2 v3 v4 v5 vf vl r0 r1 r2 r3 r4 r5 rf rl;have v4:=V3.out.cells.2.2.2.2.1;refine wp_region_held_drew (S:=fun w'=>w'.cell? ⟨w1.heap.size,4,none⟩=some (Vi lo)) (by kernel_rfl) ?_ (fun _=>?_)
 ·exact((Below.refl w3.heap.size w3).drew.cell (p:=⟨w1.heap.size,4,none⟩) V3.out.lt).trans v4
 obtain⟨w4,hw4,f,c⟩:∃v,w3.drew=v/\Fw p w3 v/\Bj v p ao n cap:=⟨_,rfl,.of_below (Below.refl _ _).drew,K3.out.below (Below.refl _ _).drew⟩
 rw[hw4]at *;have V4:Hid (Vb w4 w1.heap.size ⟨1,false,0,h,lo,0⟩):=f.arr V3.out (by omega);have R4:Hid (Vb w4 w.heap.size ⟨0,false,0,0,0,0⟩):=f.arr R3.out (by omega);have F4:=hxy (F3.out.trans f);have K4:=hxy c;clear f c V3 R3 F3 K3;clear hw4;have hS4:=V4.out.cells.2.2.2.2.1;refine AB 0 rfl ?_;refine AB 1 rfl ?_;refine AB 2 rfl ?_;refine AB 4 rfl ?_;refine AO 3 rfl (fun KK hK=>?_);go_simp;refine(Aa p ao n cap 4 _ (by omega) K4.out).mono ?_;rintro e w5⟨q,rfl,q0,q1,f,c⟩;have V5:Hid (Vb w5 w1.heap.size ⟨1,false,0,h,lo,0⟩):=f.arr V4.out (by omega);have R5:Hid (Vb w5 w.heap.size ⟨0,false,0,0,0,0⟩):=f.arr R4.out (by omega);have F5:=hxy (F4.out.trans f);have K5:=hxy c;clear f c V4 R4 F4 K4;go_wp2_with fail;refine hK.out _ _ V5.out.cells.2.2.2.2.1 (fun hS5=>?_);clear hK KK;try go_frame
 refine AO 5 rfl (fun KK hK=>?_);go_simp;refine(Aa p ao n cap 2 _ (by omega) K5.out).mono ?_;rintro e w6⟨r,rfl,r0,r1,f,c⟩;have V6:Hid (Vb w6 w1.heap.size ⟨1,false,0,h,lo,0⟩):=f.arr V5.out (by omega);have R6:Hid (Vb w6 w.heap.size ⟨0,false,0,0,0,0⟩):=f.arr R5.out (by omega);have F6:=hxy (F5.out.trans f)
 have K6:=hxy c
 clear f c V5 R5 F5 K5
 go_wp2_with fail
 refine hK.out _ _ V6.out.cells.2.2.2.2.1 (fun hS6=>?_)
 clear hK KK
 try go_frame
 refine AB 6 rfl ?_
 refine AB 7 rfl ?_
 refine AB 8 rfl ?_
 obtain⟨v0,v1,v2,v3,v4,v5⟩:=V6.out.cells
 have vf:=V6.out.free
 have vl:=V6.out.lt
 obtain⟨r0,r1,r2,r3,r4,r5⟩:=R6.out.cells
 have rf:=R6.out.free
 have rl:=R6.out.lt
 refine AO 9 rfl (fun KK hK=>?_)
 go_simp
 have hr:r=0∨r=1:=by omega
 obtain⟨hi,hhi,e0,e1⟩:∃hi:Int,IntKind.i64.wrap (lo+IntKind.i64.wrap (q*r))=hi/\lo<=hi/\hi<=100:=by
  refine⟨_,rfl,?_,?_⟩<;>(rcases hr with rfl|rfl<;>simp only[Int.mul_zero,Int.mul_one,IntKind.wrap_i64]<;>omega)
 rw[hhi]
 clear hhi hr
 obtain⟨w7,hw7,V7,R7,F7,K7⟩:∃v,w6.setCell ⟨w1.heap.size,5,none⟩ (Vi hi)=v/\Hid (Vb v w1.heap.size ⟨1,false,0,h,lo,hi⟩)/\Hid (Vb v w.heap.size ⟨0,false,0,0,0,0⟩)/\Hid (Fw p w v)/\Hid (Bj v p ao n cap):=⟨_,rfl,V6.out.setHi hi,A9.other R6.out (by simp;omega) _,F6.out.put (Nat.le_of_lt h23) _ _,K6.out.put lp1 _ _⟩
 rw[hw7]
 refine hK.out _ _ V7.out.cells.2.2.2.2.1 (fun _=>?_)
 clear hK KK
 refine wpAnyH_done (by kernel_rfl) ?_ _
 clear hw7 V6 R6 F6 K6 hS4 hS5 hS6 v4 v0 v1 v2 v3 v5 vf vl r0 r1 r2 r3 r4 r5 rf rl
 go_wp2_with fail
 refine(Aa p ao n cap 30 _ (by omega) K7.out).mono ?_
 rintro e w8⟨k,rfl,k0,k1,f,c⟩
 have V8:Hid (Vb w8 w1.heap.size ⟨1,false,0,h,lo,hi⟩):=f.arr V7.out (by omega)
 have R8:Hid (Vb w8 w.heap.size ⟨0,false,0,0,0,0⟩):=f.arr R7.out (by omega)
 have F8:=hxy (F7.out.trans f)
 have K8:=hxy c
 clear f c V7 R7 F7 K7
 by_cases c0:k=0
 ·subst c0
  obtain⟨v0,v1,v2,v3,v4,v5⟩:=V8.out.cells
  have vf:=V8.out.free
  have vl:=V8.out.lt
  obtain⟨r0,r1,r2,r3,r4,r5⟩:=R8.out.cells
  have rf:=R8.out.free
  have rl:=R8.out.lt
  go_wp2
  refine bodyPost_ret (v:=VV.v ⟨1,false,0,h,-1099511627776,hi⟩) (by simp[results,Tryz.results66,go_sem,VV.v, *]) rfl ⟨⟨1,false,0,h,-1099511627776,hi⟩,rfl,⟨rfl,rfl,rfl,h0,h1,by simp,by simp;omega,by simp;omega⟩,((((((F8.out.put (Nat.le_of_lt h23) _ _).put jG _ _).put jG _ _).put jG _ _).put jG _ _).put jG _ _).put jG _ _,((((((K8.out.put lp1 _ _).put lp _ _).put lp _ _).put lp _ _).put lp _ _).put lp _ _).put lp _ _⟩
 ·by_cases c1:k=1
  ·subst c1
   go_wp2_with fail
   refine(Aa p ao n cap 30 _ (by omega) K8.out).mono ?_
   rintro e w9⟨m,rfl,m0,m1,f,c⟩
   have V9:Hid (Vb w9 w1.heap.size ⟨1,false,0,h,lo,hi⟩):=f.arr V8.out (by omega)
   have R9:Hid (Vb w9 w.heap.size ⟨0,false,0,0,0,0⟩):=f.arr R8.out (by omega)
   have F9:=hxy (F8.out.trans f)
   have K9:=hxy c
   clear f c V8 R8 F8 K8
   obtain⟨v0,v1,v2,v3,v4,v5⟩:=V9.out.cells
   have vf:=V9.out.free
   have vl:=V9.out.lt
   obtain⟨r0,r1,r2,r3,r4,r5⟩:=R9.out.cells
   have rf:=R9.out.free
   have rl:=R9.out.lt
   go_wp2
   refine bodyPost_ret (v:=VV.v ⟨1,false,0,h,lo,1099511627776-m⟩) (by simp[results,Tryz.results66,go_sem,VV.v, *]) rfl ⟨⟨1,false,0,h,lo,1099511627776-m⟩,rfl,⟨rfl,rfl,rfl,h0,h1,by simp;omega,by simp;omega,by simp;omega⟩,((((((F9.out.put (Nat.le_of_lt h23) _ _).put jG _ _).put jG _ _).put jG _ _).put jG _ _).put jG _ _).put jG _ _,((((((K9.out.put lp1 _ _).put lp _ _).put lp _ _).put lp _ _).put lp _ _).put lp _ _).put lp _ _⟩
  ·skip
   obtain⟨v0,v1,v2,v3,v4,v5⟩:=V8.out.cells
   have vf:=V8.out.free
   have vl:=V8.out.lt
   obtain⟨r0,r1,r2,r3,r4,r5⟩:=R8.out.cells
   have rf:=R8.out.free
   have rl:=R8.out.lt
   go_wp2
   refine bodyPost_ret (v:=VV.v ⟨1,false,0,h,lo,hi⟩) (by simp[results,Tryz.results66,go_sem,VV.v, *]) rfl ⟨⟨1,false,0,h,lo,hi⟩,rfl,⟨rfl,rfl,rfl,h0,h1,by simp;omega,e0,by simp;omega⟩,((((((F8.out).put jG _ _).put jG _ _).put jG _ _).put jG _ _).put jG _ _).put jG _ _,((((((K8.out).put lp _ _).put lp _ _).put lp _ _).put lp _ _).put lp _ _).put lp _ _⟩
end Go.Proofs.YtfpeecaaleijcaaGreatDoor
namespace Go.Proofs.YtfpeecaaleijcaaGreatDoor
open Go.RowKit Go.Deep
variable {xs:List Value}{B b e n p q s:Nat}{x:VV}{v v':Value}{u:World}
theorem DI{u':World}{row:Option Nat}(h:u.ownsRow B e s v n xs)(hg:u.grownBy u' row)(hn:∀q,v.ownBlock=some q->row≠some q):u'.ownsRow B e s v n xs:=by
 refine⟨h.1,?_⟩;rcases h.2 with h|⟨g,cap,cur,rfl,h1,h2,h3⟩
 ·exact .inl h
 ·exact .inr ⟨g,cap,cur,rfl,h1,BJ h2 hg (hn g rfl),h3⟩
theorem own_ne{B' e' s' n':Nat}{xs':List Value}(h:u.ownsRow B e s v n xs)(h':u.ownsRow B' e' s' v' n' xs')(he:e≠e'):∀q,v.ownBlock=some q->v'.ownBlock≠some q:=fun q hq=>by
 rcases h.2 with⟨h,_⟩|⟨g,cap,cur,h,_,h2,_⟩
 ·rw[h]at hq;cases hq
 ·rw[h]at hq
  have:g=q:=Option.some.inj hq;subst this;exact Am h2 h' he
theorem QF(h:u.ownsRow B e s v n xs)(hq:v.ownBlock=some q):q<u.heap.size:=by
 rcases h.2 with⟨h',_⟩|⟨g,cap,cur,h',_,h2,_⟩
 ·rw[h']at hq;cases hq
 ·rw[h']at hq
  have:g=q:=Option.some.inj hq;have:=Bb h2;omega
theorem Au{B':Nat}(h:u.ownsRow B e s v n xs)(hb:B'<=B):u.ownsRow B' e s v n xs:=by
 refine⟨h.1,?_⟩;rcases h.2 with h|⟨g,cap,cur,rfl,h1,h2⟩
 ·exact .inl h
 ·exact .inr ⟨g,cap,cur,rfl,by omega,h2⟩
theorem Xo{w:World}{g c:Nat}(h:w.ownsRow B e s (Vs g n c) n xs):n<=c:=by
 rcases h.2 with⟨h',_⟩|⟨g',cap,cur,h',_,_,h3,_⟩
 ·cases h'
 ·obtain⟨_,_,rfl⟩:=Value.slice.inj h'
  exact h3
def hcl(x:HS):List Value:=[Vi x.size,.bool x.s,.bool x.w]
def hs0:HS:=⟨0,false,false⟩
theorem Qd:∀(hs:List HS)(p:Nat),p<hs.length*3->(hs.flatMap hcl)[p]?=some (QD (fun i=>hs.getD i hs0) p)
 |[],p,h=>by simp at h
 |y::l,p,h=>by
  rw[List.flatMap_cons];by_cases hp:p<3
  ·rw[List.getElem?_append_left (by show p<3;exact hp)]
   unfold QD;rw[show p/3=0 by omega,show p%3=p by omega];match p,hp with
   |0,_=>rfl
   |1,_=>rfl
   |2,_=>rfl
  ·rw[List.getElem?_append_right (by show 3<=p;omega)]
   show(l.flatMap hcl)[p-3]?=_;rw[Qd l (p-3) (by simp at h;omega)];unfold QD;rw[show(p-3)/3=p/3-1 by omega,show(p-3)%3=p%3 by omega];obtain⟨k,hk⟩:∃k,p/3=k+1:=⟨p/3-1,by omega⟩
   rw[hk];rfl
theorem PN:∀(vs:List VV)(p:Nat),p<vs.length*6->(vs.flatMap UQ)[p]?=some (vF (fun i=>vs.getD i zV) p)
 |[],p,h=>by simp at h
 |y::l,p,h=>by
  rw[List.flatMap_cons];by_cases hp:p<6
  ·rw[List.getElem?_append_left (by show p<6;exact hp)]
   unfold vF;rw[show p/6=0 by omega,show p%6=p by omega];match p,hp with
   |0,_=>rfl
   |1,_=>rfl
   |2,_=>rfl
   |3,_=>rfl
   |4,_=>rfl
   |5,_=>rfl
  ·rw[List.getElem?_append_right (by show 6<=p;omega)]
   show(l.flatMap UQ)[p-6]?=_;rw[PN l (p-6) (by simp at h;omega)];unfold vF;rw[show(p-6)/6=p/6-1 by omega,show(p-6)%6=p%6 by omega];obtain⟨k,hk⟩:∃k,p/6=k+1:=⟨p/6-1,by omega⟩
   rw[hk];rfl
theorem Xl:(Tryz.prog.info? 40).map (fun i=>(i.zero,i.size,i.bytes))=some (some (.agg #[Vi 0,.bool false,.bool false]),3,16):=by kernel_rfl
structure DS(w:World)(p:Nat)(ao:Option Addr)(n cap r q:Nat)(vH:Value)(hs:List HS)(vR:Value)(vs:List VV)(u:World):Prop where
 F:Fw p w u
 K:Bj u p ao n cap
 Z:u.heap[r]?=some (.cells #[.slice none 0 0,.slice none 0 0] 26)
 X:u.heap[q]?=some (.cells #[vH,vR] 26)
 H:u.ownsRow w.heap.size 40 3 vH hs.length (hs.flatMap hcl)
 R:u.ownsRow w.heap.size 42 6 vR vs.length (vs.flatMap UQ)
 pw:p<w.heap.size
 wr:w.heap.size<=r
 rq:r<q
section
variable{w:World}{p:Nat}{ao:Option Addr}{n cap r q:Nat}{vH:Value}{hs:List HS}{vR:Value}{vs:List VV}{u u':World}
theorem DS.fw(h:DS w p ao n cap r q vH hs vR vs u)(f:Fw p u u')(c:Bj u' p ao n cap):DS w p ao n cap r q vH hs vR vs u':=
 ⟨h.F.trans f,c,CJ h.Z f (by have:=h.pw;have:=h.wr;omega),CJ h.X f (by have:=h.pw;have:=h.wr;have:=h.rq;omega),DX h.H f h.pw,DX h.R f h.pw,h.pw,h.wr,h.rq⟩
theorem DS.below(h:DS w p ao n cap r q vH hs vR vs u)(f:Below u.heap.size u u'):DS w p ao n cap r q vH hs vR vs u':=h.fw (.of_below f) (h.K.below f)
theorem DS.put(h:DS w p ao n cap r q vH hs vR vs u)(hb:q<b)(n1:vH.ownBlock≠some b)(n2:vR.ownBlock≠some b)(j:Nat)(v:Value):DS w p ao n cap r q vH hs vR vs (u.setCell (Va b j) v):=by
 have o1:=h.pw;have o2:=h.wr;have o3:=h.rq;exact⟨h.F.put (by omega) _ _,h.K.put (by omega) _ _,Av h.Z (by omega) _ _,Av h.X (by omega) _ _,Cs h.H n1 _ _,Cs h.R n2 _ _,o1,o2,o3⟩
theorem DS.cells(h:DS w p ao n cap r q vH hs vR vs u):u.cell? (Va q 0)=some vH/\u.cell? (Va q 1)=some vR/\(∀i,u.frozen? (Va q i)=false)/\q<u.heap.size:=⟨(AY h.X 0).trans rfl,(AY h.X 1).trans rfl,Cr h.X,Bb h.X⟩
theorem DS.growH(h:DS w p ao n cap r q vH hs vR vs u){x:HS}(hg:u.grownBy u' vH.ownBlock)(ho:u'.ownsRow w.heap.size 40 3 v' (hs.length+1) (hs.flatMap hcl++hcl x)):DS w p ao n cap r q v' (hs++[x]) vR vs (u'.setCell (Va q 0) v'):=by
 have o1:=h.pw;have o2:=h.wr;have o3:=h.rq;have X':=BJ h.X hg (Am h.X h.H (by decide));have Z':=BJ h.Z hg (Am h.Z h.H (by decide));have R':=DI h.R hg (fun b hb=>own_ne h.R h.H (by decide) b hb);have ho':u'.ownsRow w.heap.size 40 3 v' (hs++[x]).length ((hs++[x]).flatMap hcl):=by simpa using ho
 exact⟨(h.F.grown hg (fun k hk=>Ba h.H hk)).put (by omega) _ _,(h.K.grown hg (fun k hk=>by have:=Ba h.H hk;omega)).put (by omega) _ _,Av Z' (by omega) _ _,Ci X' 0 v',Cs ho' (Am X' ho' (by decide)) _ _,Cs R' (Am X' R' (by decide)) _ _,o1,o2,o3⟩
theorem DS.growR(h:DS w p ao n cap r q vH hs vR vs u)(hg:u.grownBy u' vR.ownBlock)(ho:u'.ownsRow w.heap.size 42 6 v' (vs.length+1) (vs.flatMap UQ++UQ x)):DS w p ao n cap r q vH hs v' (vs++[x]) (u'.setCell (Va q 1) v'):=by
 have o1:=h.pw;have o2:=h.wr;have o3:=h.rq;have X':=BJ h.X hg (Am h.X h.R (by decide));have Z':=BJ h.Z hg (Am h.Z h.R (by decide));have H':=DI h.H hg (fun b hb=>own_ne h.H h.R (by decide) b hb);have ho':u'.ownsRow w.heap.size 42 6 v' (vs++[x]).length ((vs++[x]).flatMap UQ):=by simpa using ho
 exact⟨(h.F.grown hg (fun k hk=>Ba h.R hk)).put (by omega) _ _,(h.K.grown hg (fun k hk=>by have:=Ba h.R hk;omega)).put (by omega) _ _,Av Z' (by omega) _ _,Ci X' 1 v',Cs H' (Am X' H' (by decide)) _ _,Cs ho' (Am X' ho' (by decide)) _ _,o1,o2,o3⟩
theorem DS.put6(h:DS w p ao n cap r q vH hs vR vs u)(hb:q<b)(n1:vH.ownBlock≠some b)(n2:vR.ownBlock≠some b)(a0 a1 a2 a3 a4 a5:Value):DS w p ao n cap r q vH hs vR vs (Gn u b a0 a1 a2 a3 a4 a5):=
 (((((h.put hb n1 n2 _ _).put hb n1 n2 _ _).put hb n1 n2 _ _).put hb n1 n2 _ _).put hb n1 n2 _ _).put hb n1 n2 _ _
end
def VB(u:World)(b:Nat)(x:VV):Prop:=u.heap[b]?=some (.cells #[Vi x.k,.bool x.s,Vi x.m,Vi x.h,Vi x.lo,Vi x.hi] 42)
theorem VB.cells(h:VB u b x):u.cell? (Va b 0)=some (Vi x.k)/\u.cell? (Va b 1)=some (.bool x.s)/\u.cell? (Va b 2)=some (Vi x.m)/\u.cell? (Va b 3)=some (Vi x.h)/\u.cell? (Va b 4)=some (Vi x.lo)/\u.cell? (Va b 5)=some (Vi x.hi)/\(∀i,u.frozen? (Va b i)=false)/\b<u.heap.size:=
 ⟨(AY h 0).trans rfl,(AY h 1).trans rfl,(AY h 2).trans rfl,(AY h 3).trans rfl,(AY h 4).trans rfl,(AY h 5).trans rfl,Cr h,Bb h⟩
theorem dY(w:World)(p:Nat)(ao:Option Addr)(n cap:Nat)(hc:Bj w p ao n cap):DS w p ao n cap w.heap.size (w.heap.size+1) (.slice none 0 0) [] (.slice none 0 0) [] ((w.alloc (.cells #[.slice none 0 0,.slice none 0 0] 26)).alloc (.cells #[.slice none 0 0,.slice none 0 0] 26)):=by
 have b:Below w.heap.size w ((w.alloc (.cells #[.slice none 0 0,.slice none 0 0] 26)).alloc (.cells #[.slice none 0 0,.slice none 0 0] 26)):=(Ak).alloc (by simp) _;have e1:(w.alloc (.cells #[.slice none 0 0,.slice none 0 0] 26)).heap.size=w.heap.size+1:=by simp
 refine⟨.of_below b,hc.below b,?_,?_,World.ownsRow_nil _ _ _ _,World.ownsRow_nil _ _ _ _,hc.lt,jG,by omega⟩
 ·exact Aw (Bh w _) Ak
 ·rw[<-e1];exact Bh _ _
def gX(w:World)(p:Nat)(ao:Option Addr)(n cap:Nat)(e:Ending)(w':World):Prop:=
 ∃(bH cH nH:Nat)(S:Nat->HS)(bR cR:Nat)(V0:Nat->VV),e=.returned (.agg #[Vs bH nH cH,Vs bR 8 cR])/\1<=nH/\nH<=4/\Bl w' bH nH S bR 8 V0/\Cu nH S 8 V0=true/\w.heap.size<=bH/\w.heap.size<=bR/\Fw p w w'/\Bj w' p ao n cap/\8<=cR/\bH≠bR
theorem Zm{n:Int}(h:fG x):GV x n:=Or.inl ⟨h.1,h.2.2.2.2.1,h.2.2.2.2.2,h.2.1,h.2.2.1,h.2.2.2.1⟩
theorem ZX{n:Int}(h:dL x n):GV x n:=Or.inr h
theorem Nk(p:Nat)(ao:Option Addr)(n cap:Nat)(w:World)(hc:Bj w p ao n cap):
 Calls Tryz.prog 33 #[Vq p] w (gX w p ao n cap):=by
 have D0:=hxy (dY w p ao n cap hc);obtain⟨iV,gV,gV0,gV1,gV2⟩:=info_parts LM;have HIV:Hid (_/\_/\_/\_):=⟨gV,gV0,gV1,gV2⟩
 obtain⟨iH,gH,gH0,gH1,gH2⟩:=info_parts Xl;have HIH:Hid (_/\_/\_/\_):=⟨gH,gH0,gH1,gH2⟩
 have lp:=hc.lt;clear hc gV gV0 gV1 gV2 gH gH0 gH1 gH2;go_enter Tryz.func33,Tryz.ntmps33;go_upto_region 2 with fail;obtain⟨u,hu⟩:=Ae ((w.alloc (.cells #[.slice none 0 0,.slice none 0 0] 26)).alloc (.cells #[.slice none 0 0,.slice none 0 0] 26));rw[hu]at D0⊢;obtain⟨r,hr⟩:=Ae w.heap.size;obtain⟨q,hq⟩:=Ae (w.heap.size+1);have D1:Hid (DS w p ao n cap r q (.slice none 0 0) [] (.slice none 0 0) [] u):=by rw[<-hr,<-hq];exact D0
 rw[hq,hr];clear hu hr hq D0;go_wp2_with fail;refine(Aa p ao n cap 4 _ (by omega) D1.out.K).mono ?_;rintro e u1⟨x,rfl,x0,x4,f,c⟩;have D2:=hxy (D1.out.fw f c);clear f c D1;obtain⟨m,hm⟩:∃m:Nat,(m:Int)=1+x:=⟨(1+x).toNat,by omega⟩
 have m1:1<=m:=by omega
 have m4:m<=4:=by omega
 go_upto_region 3 with fail;rw[<-hm];clear hm x0 x4;go_wp2_with fail;go_loopw [5](fun iv wr=>∃(vH:Value)(hs:List HS),iv=Vi (hs.length:Int)/\hs.length<=m/\Hid (∀h∈hs,8<=h.size/\h.size<=47)/\DS w p ao n cap r q vH hs (.slice none 0 0) [] wr)(fun iv _=>m-(intOf iv).toNat)
 case atStart=>exact⟨_,[],rfl,by simp,fun h hh=>(by cases hh),D2.out⟩
 case round=>
  clear D2;obtain⟨vH,hs,rfl,hle,HHS,hx⟩:=hrel;have D3:=hxy hx;clear hx;by_cases hlt:hs.length<m
  ·have hlt':(hs.length:Int)<(m:Int):=by omega
   go_upto_region 7 with fail;obtain⟨u2,hu2,b2⟩:∃y,wr.alloc (.cells #[Vi 0,.bool false,.bool false] 40)=y/\Below wr.heap.size wr y:=⟨_,rfl,Ak⟩
   have n2:=V3.new wr 40 (Vi 0) (.bool false) (.bool false);rw[hu2]at n2⊢;have D4:=hxy (D3.out.below b2);have hqb:=D3.out.cells.2.2.2;have hnH:vH.ownBlock≠some wr.heap.size:=fun e=>by have:=QF D3.out.H e;omega
   obtain⟨hb,hhb⟩:=Ae wr.heap.size;rw[hhb]at n2 hqb hnH⊢;have N2:=hxy n2;have HN:Hid (vH.ownBlock≠some hb/\(Value.slice none 0 0).ownBlock≠some hb/\p≠hb):=⟨hnH,(by intro e;cases e),by have:=D3.out.pw;have:=D3.out.wr;have:=D3.out.rq;omega⟩
   clear hu2 b2 n2 hhb hnH D3;go_wp2_with fail;refine(Aa p ao n cap 40 _ (by omega) D4.out.K).mono ?_;rintro e u3⟨sz,rfl,sz0,sz1,f,c⟩;have D5:=hxy (D4.out.fw f c);have N3:Hid (V3 u3 hb 40 (Vi 0) (.bool false) (.bool false)):=CJ N2.out f HN.out.2.2;clear f c D4 N2;obtain⟨c0,c1,c2⟩:=N3.out.cells;have cf:=N3.out.free;have cl:=N3.out.lt;go_upto_region 8 with fail;obtain⟨u4,hu4⟩:=Ae (u3.setCell (Va hb 0) (Vi (8+sz)));have D6:Hid (DS w p ao n cap r q vH hs (.slice none 0 0) [] u4):=by rw[<-hu4];exact D5.out.put hqb HN.out.1 HN.out.2.1 _ _
   have N4:Hid (V3 u4 hb 40 (Vi (8+sz)) (.bool false) (.bool false)):=by rw[<-hu4];exact Ci N3.out 0 _
   rw[hu4];clear hu4 D5 N3 c0 c1 c2 cf cl;go_wp2_with fail;refine(Dh p ao n cap 2 _ (by omega) D6.out.K).mono ?_;rintro e u5⟨sc,rfl,f,c⟩;have D7:=hxy (D6.out.fw f c);have N5:Hid (V3 u5 hb 40 (Vi (8+sz)) (.bool false) (.bool false)):=CJ N4.out f HN.out.2.2;clear f c D6 N4;obtain⟨c0,c1,c2⟩:=N5.out.cells;have cf:=N5.out.free;have cl:=N5.out.lt;go_upto_region 9 with fail;obtain⟨u6,hu6⟩:=Ae (u5.setCell (Va hb 1) (.bool sc));have D8:Hid (DS w p ao n cap r q vH hs (.slice none 0 0) [] u6):=by rw[<-hu6];exact D7.out.put hqb HN.out.1 HN.out.2.1 _ _
   have N6:Hid (V3 u6 hb 40 (Vi (8+sz)) (.bool sc) (.bool false)):=by rw[<-hu6];exact Ci N5.out 1 _
   rw[hu6];clear hu6 D7 N5 c0 c1 c2 cf cl;go_wp2_with fail;refine(Aa p ao n cap 3 _ (by omega) D8.out.K).mono ?_;rintro e u7⟨y,rfl,y0,y1,f,c⟩;have D9:=hxy (D8.out.fw f c);have N7:Hid (V3 u7 hb 40 (Vi (8+sz)) (.bool sc) (.bool false)):=CJ N6.out f HN.out.2.2;clear f c D8 N6;obtain⟨c0,c1,c2⟩:=N7.out.cells;have cf:=N7.out.free;have cl:=N7.out.lt;obtain⟨wb,hwb⟩:=Ae (decide (0<y));go_upto_region 10 with fail;obtain⟨u8,hu8⟩:=Ae (u7.setCell (Va hb 2) (.bool wb));have D10:Hid (DS w p ao n cap r q vH hs (.slice none 0 0) [] u8):=by rw[<-hu8];exact D9.out.put hqb HN.out.1 HN.out.2.1 _ _
   have N8:Hid (V3 u8 hb 40 (Vi (8+sz)) (.bool sc) (.bool wb)):=by rw[<-hu8];exact Ci N7.out 2 _
   try rw[hwb]
   rw[hu8];clear hu8 D9 N7 c0 c1 c2 cf cl hwb;obtain⟨ha,hcp,hvH⟩:=II D10.out.H;subst hvH;obtain⟨x0,x1,xf,xz⟩:=D10.out.cells;obtain⟨c0,c1,c2⟩:=N8.out.cells;have cl:=N8.out.lt;have hBa:∀o,w.heap.size<=(u8.alloc o).heap.size:=fun o=>(D10.out.below ((Below.refl _ _).alloc jG o)).F.size
   have HCN:Hid (∀j x,[Vi (8+sz),.bool sc,.bool wb][j]?=some x->(u8.alloc (.cells #[Vi (8+sz),.bool sc,.bool wb] 40)).cell? ((⟨u8.heap.size,0,none⟩:Addr).add j)=some x):=FN u8 _ _;have OA:Hid (∀o,(u8.alloc o).ownsRow w.heap.size 40 3 (.slice ha hs.length hcp) hs.length (hs.flatMap hcl)):=fun o=>(D10.out.below ((Below.refl _ _).alloc jG o)).H
   have hln:hs.length<=4:=by omega
   go_wp2_with(first|(at_builtin;refine wpList_append_own_at _ rfl _ _ 23 rfl w.heap.size 40 iH _ 3 16 Tryz.underlying23 HIH.out.1 HIH.out.2.1 HIH.out.2.2.1 HIH.out.2.2.2 rfl (by decide) _ _ _ rfl (OA.out _) ⟨u8.heap.size,0,none⟩ 1 1 [Vi (8+sz),.bool sc,.bool wb] rfl rfl HCN.out ?c2 ?c3 ?c4 (hBa _) ?_))
   case c2=>simp[Value.oneCell']
   case c3=>unfold maxLen;omega
   case c4=>omega
   intro v' u9 hown hgrow _ _;obtain⟨ua,hua,ba⟩:∃y,u8.alloc (.cells #[Vi (8+sz),.bool sc,.bool wb] 40)=y/\Below u8.heap.size u8 y:=⟨_,rfl,Ak⟩
   rw[hua]at hgrow;have D11:Hid (DS w p ao n cap r q v' (hs++[⟨8+sz,sc,wb⟩]) (.slice none 0 0) [] (u9.setCell (Va q 0) v')):=(D10.out.below ba).growH (x:=⟨8+sz,sc,wb⟩) hgrow hown;have hx9:=BJ (D10.out.below ba).X hgrow (Am (D10.out.below ba).X (D10.out.below ba).H (by decide));have z0:=(AY hx9 0).trans rfl;have zf:=Cr hx9;have zl:=Bb hx9;obtain⟨vb,vcp,rfl⟩:=II hown;clear hown hgrow ba hua hx9 D10 N8 x0 x1 xf xz c0 c1 c2 cl OA HCN hBa;go_wp2_with fail;go_roundw
   case rel=>exact⟨_,hs++[⟨8+sz,sc,wb⟩],by simp,by simp;omega,(fun h hh=>by
    rcases List.mem_append.1 hh with hh|hh
    ·exact HHS.out h hh
    ·obtain rfl:=List.mem_singleton.1 hh
     exact⟨by show 8<=8+sz;omega,by show 8+sz<=47;omega⟩),D11.out⟩
   case measure=>simp[intOf];omega
  ·have hm:hs.length=m:=by omega
   have hend:¬(hs.length:Int)<(m:Int):=by omega
   have HM:=hxy hm;clear hm;obtain⟨bH,cH,rfl⟩:=Fv D3.out.H (by omega);go_wp2_with fail;go_loopw [7](fun iv wr=>∃(vR:Value)(vs:List VV),iv=Vi (vs.length:Int)/\vs.length<=8/\Hid (∀v∈vs,GV v m)/\DS w p ao n cap r q (Vs bH hs.length cH) hs vR vs wr)(fun iv _=>8-(intOf iv).toNat)
   case atStart=>exact⟨_,[],rfl,by simp,fun h hh=>(by cases hh),D3.out⟩
   case round=>
    clear D3;obtain⟨vR,vs,rfl,hle8,HVS,hx⟩:=hrel;have D4:=hxy hx;clear hx;by_cases hlt8:vs.length<8
    rotate_left
    ·have h8:vs.length=8:=by omega
     have hend8:¬(vs.length:Int)<8:=by omega
     obtain⟨bR,cR,rfl⟩:=Fv D4.out.R (by omega);rw[h8]at D4;obtain⟨x0,x1,xf,xz⟩:=D4.out.cells;have z0:=(AY D4.out.Z 0).trans rfl;have z1:=(AY D4.out.Z 1).trans rfl;have zf:=Cr D4.out.Z;have zl:=Bb D4.out.Z;have hne:r≠q:=by have:=D4.out.rq;omega
     have hH:bH≠r:=fun e=>Am D4.out.Z D4.out.H (by decide) (by rw[e];rfl)
     have hR:bR≠r:=fun e=>Am D4.out.Z D4.out.R (by decide) (by rw[e];rfl)
     have RR:wr.ownsRow w.heap.size 42 6 (Vs bR 8 cR) 8 (vs.flatMap UQ):=by have k:=D4.out.R;rwa [h8]at k
     have SC:Hid (Bl wr bH hs.length (fun i=>hs.getD i hs0) bR 8 (fun i=>vs.getD i zV)):=⟨⟨(D4.out.H.lt _ rfl).2,fun i=>D4.out.H.frozenAt i,fun i hi=>by rw[D4.out.H.cellAt i hi];exact Qd hs i hi⟩,⟨(RR.lt _ rfl).2,fun i=>RR.frozenAt i,fun i hi=>by
      have h8':i<vs.length*6:=by omega
      rw[RR.cellAt i (by omega)];exact PN vs i h8'⟩⟩
     have OK:Hid (Cu hs.length (fun i=>hs.getD i hs0) 8 (fun i=>vs.getD i zV)=true):=(by
      unfold Cu Cq;simp only[Bool.and_eq_true,decide_eq_true_eq,List.all_eq_true,List.mem_range];refine⟨⟨by omega,fun i hi=>?_⟩,trivial,fun i hi=>?_⟩
      ·unfold Eh
       have:=HHS.out (hs.getD i hs0) (by rw[jJ,List.getElem?_eq_getElem hi];simp);simp only[decide_eq_true_eq];omega
      ·rw[HM.out]
       exact gv.2 (HVS.out (vs.getD i zV) (by rw[jJ,List.getElem?_eq_getElem (by omega)];simp)):Cu hs.length (fun i=>hs.getD i hs0) 8 (fun i=>vs.getD i zV)=true)
     have GE:Hid (w.heap.size<=bH/\w.heap.size<=bR/\Fw p w ((wr.setCell (Va r 0) (Vs bH hs.length cH)).setCell (Va r 1) (Vs bR 8 cR))/\Bj ((wr.setCell (Va r 0) (Vs bH hs.length cH)).setCell (Va r 1) (Vs bR 8 cR)) p ao n cap):=⟨(D4.out.H.lt _ rfl).1,(RR.lt _ rfl).1,(D4.out.F.put D4.out.wr _ _).put D4.out.wr _ _,(D4.out.K.put (by have:=D4.out.pw;have:=D4.out.wr;omega) _ _).put (by have:=D4.out.pw;have:=D4.out.wr;omega) _ _⟩
     have RC:Hid (8<=cR/\bH≠bR):=⟨Xo RR,fun e=>own_ne D4.out.H RR (by decide) bH rfl (by rw[e];rfl)⟩
     clear D4 HVS HHS RR;go_wp2_with fail;refine bodyPost_ret (v:=.agg #[Vs bH hs.length cH,Vs bR 8 cR]) (by simp[results,Tryz.results33,go_sem, *]) rfl ⟨bH,cH,hs.length,_,bR,cR,_,rfl,by omega,by omega,⟨(SC.out.h.other (a:=Va r 0) (fun e=>hH e.symm) _).other (a:=Va r 1) (fun e=>hH e.symm) _,(SC.out.r.other (a:=Va r 0) (fun e=>hR e.symm) _).other (a:=Va r 1) (fun e=>hR e.symm) _⟩,OK.out,GE.out.1,GE.out.2.1,GE.out.2.2.1,GE.out.2.2.2,RC.out⟩
    have hlt8':(vs.length:Int)<8:=by omega
    go_wp2_with fail;refine(Nr p ao n cap _ D4.out.K).mono ?_;rintro e u2⟨x,rfl,hxn,f,c⟩;have D5:=hxy (D4.out.fw f c);have Ep:Hid (GV x m):=Zm hxn;clear f c D4 hxn;unfold VV.v;go_upto_region 15 with fail;obtain⟨u3,hu3,b3⟩:∃y,u2.alloc (.cells #[Vi x.k,.bool x.s,Vi x.m,Vi x.h,Vi x.lo,Vi x.hi] 42)=y/\Below u2.heap.size u2 y:=⟨_,rfl,Ak⟩
    have n3:VB (u2.alloc (.cells #[Vi x.k,.bool x.s,Vi x.m,Vi x.h,Vi x.lo,Vi x.hi] 42)) u2.heap.size x:=Bh _ _;rw[hu3]at n3⊢;have D6:=hxy (D5.out.below b3);have hqb:=D5.out.cells.2.2.2;have hnH:(Vs bH hs.length cH).ownBlock≠some u2.heap.size:=fun e=>by have:=QF D5.out.H e;omega
    have hnR:vR.ownBlock≠some u2.heap.size:=fun e=>by have:=QF D5.out.R e;omega
    have hpb:p≠u2.heap.size:=by have:=D5.out.K.lt;omega
    obtain⟨vb,hvb⟩:=Ae u2.heap.size;rw[hvb]at n3 hqb hnH hnR hpb⊢;have N3:=hxy n3;have HN:Hid ((Vs bH hs.length cH).ownBlock≠some vb/\vR.ownBlock≠some vb/\p≠vb):=⟨hnH,hnR,hpb⟩
    clear hu3 b3 n3 hvb hnH hnR hpb D5;go_cut [48](fun s48 wx=>∃zz:Bool,s48=.bool zz/\DS w p ao n cap r q (Vs bH hs.length cH) hs vR vs wx/\VB wx vb x)
    case first=>
     by_cases h4:vs.length<4
     ·have e1:decide ((vs.length:Int)<4)=true:=by simp;omega
      go_wp2_with fail;refine(Aa p ao n cap 4 _ (by omega) D6.out.K).mono ?_;rintro e u4⟨y,rfl,y0,y1,f,c⟩;have D7:=hxy (D6.out.fw f c);have N4:=hxy (CJ N3.out f HN.out.2.2);clear f c;go_wp2_with fail;go_meet;exact⟨_,rfl,D7.out,N4.out⟩
     ·have e1:decide ((vs.length:Int)<4)=false:=by simp;omega
      go_wp2_with fail;go_meet;exact⟨_,rfl,D6.out,N3.out⟩
    case rest=>
    obtain⟨zz,rfl,d7,n7⟩:=hcut;have D7:=hxy d7;have N7:=hxy n7;clear d7 n7 D6 N3;generalize wc=u4 at D7 N7⊢;go_upto_if 48 with fail;go_cut [8](fun s8 wx=>s8=Vq vb/\∃x':VV,GV x' m/\DS w p ao n cap r q (Vs bH hs.length cH) hs vR vs wx/\VB wx vb x')
    case first=>
     cases zz with
     |false=>
      go_wp2_with fail;go_meet;exact⟨rfl,x,Ep.out,D7.out,N7.out⟩
     |true=>
      go_wp2_with fail;refine(Np p ao n cap (m:Int) _ (by omega) D7.out.K).mono ?_;rintro e u5⟨x',rfl,hxp,f,c⟩;have D8:=hxy (D7.out.fw f c);have N8:Hid (VB u5 vb x):=CJ N7.out f HN.out.2.2;have KD:=hxy hxp;clear f c D7 N7 hxp Ep;unfold VV.v;obtain⟨c0,c1,c2,c3,c4,c5,cf,cl⟩:=N8.out.cells;go_upto_region 17 with fail;obtain⟨u6,hu6,d9,n9⟩:∃y,Gn u5 vb (Vi x'.k) (.bool x'.s) (Vi x'.m) (Vi x'.h) (Vi x'.lo) (Vi x'.hi)=y/\DS w p ao n cap r q (Vs bH hs.length cH) hs vR vs y/\VB y vb x':=⟨_,rfl,D8.out.put6 hqb HN.out.1 HN.out.2.1 _ _ _ _ _ _,LY N8.out _ _ _ _ _ _⟩
      unfold Gn at hu6;rw[hu6];have D9:=hxy d9;have N9:=hxy n9;clear hu6 d9 n9 D8 N8 c0 c1 c2 c3 c4 c5 cf cl;go_cut [59](fun s59 wx=>∃zz:Bool,s59=.bool zz/\(zz=true->vs.length<m)/\DS w p ao n cap r q (Vs bH hs.length cH) hs vR vs wx/\VB wx vb x')
      case first=>
       by_cases h4:vs.length<m
       ·have e1:decide ((vs.length:Int)<(m:Int))=true:=by simp;omega
        go_wp2_with fail;refine(Aa p ao n cap 3 _ (by omega) D9.out.K).mono ?_;rintro e u7⟨y,rfl,y0,y1,f,c⟩;have D10:=hxy (D9.out.fw f c);have N10:=hxy (CJ N9.out f HN.out.2.2);clear f c;go_wp2_with fail;go_meet;exact⟨_,rfl,fun _=>h4,D10.out,N10.out⟩
       ·have e1:decide ((vs.length:Int)<(m:Int))=false:=by simp;omega
        go_wp2_with fail;go_meet;exact⟨_,rfl,(by intro e;cases e),D9.out,N9.out⟩
      case rest=>
      obtain⟨zz,rfl,hzz,d10,n10⟩:=hcut;have D10:=hxy d10;have N10:=hxy n10;clear d10 n10 D9 N9;generalize wc=u7 at D10 N10⊢;cases zz with
      |false=>
       go_wp2_with fail;go_meet;exact⟨rfl,x',ZX KD.out,D10.out,N10.out⟩
      |true=>
       have h4:=hzz rfl;clear hzz;obtain⟨c0,c1,c2,c3,c4,c5,cf,cl⟩:=N10.out.cells;go_wp2_with fail;go_meet;refine⟨rfl,{x' with h:=(vs.length:Int)},Or.inr ?_,D10.out.put hqb HN.out.1 HN.out.2.1 _ _,Ci N10.out 3 _⟩;have:=KD.out;unfold dL at this;exact⟨this.1,this.2.1,this.2.2.1,by show(0:Int)<=vs.length;omega,by show(vs.length:Int)<m;omega,this.2.2.2.2.2⟩
    case rest=>
    obtain⟨rfl,x',gx,d8,n8⟩:=hcut;have D8:=hxy d8;have N8:=hxy n8;have GX':=hxy gx;clear d8 n8 D7 N7 gx Ep;generalize wc=u5 at D8 N8⊢;obtain⟨ra,rcp,hvR⟩:=II D8.out.R;subst hvR;obtain⟨x0,x1,xf,xz⟩:=D8.out.cells;obtain⟨c0,c1,c2,c3,c4,c5,cf,cl⟩:=N8.out.cells;have hBa:∀o,w.heap.size<=(u5.alloc o).heap.size:=fun o=>(D8.out.below ((Below.refl _ _).alloc jG o)).F.size
    have HCN:Hid (∀j y,(UQ x')[j]?=some y->(u5.alloc (.cells #[Vi x'.k,.bool x'.s,Vi x'.m,Vi x'.h,Vi x'.lo,Vi x'.hi] 42)).cell? ((⟨u5.heap.size,0,none⟩:Addr).add j)=some y):=FN u5 _ _;have OA:Hid (∀o,(u5.alloc o).ownsRow w.heap.size 42 6 (.slice ra vs.length rcp) vs.length (vs.flatMap UQ)):=fun o=>(D8.out.below ((Below.refl _ _).alloc jG o)).R
    go_wp2_with(first|(at_builtin;refine wpList_append_own_at _ rfl _ _ 24 rfl w.heap.size 42 iV _ 6 48 Tryz.underlying24 HIV.out.1 HIV.out.2.1 HIV.out.2.2.1 HIV.out.2.2.2 rfl (by decide) _ _ _ rfl (OA.out _) ⟨u5.heap.size,0,none⟩ 1 1 (UQ x') rfl rfl HCN.out ?c2 ?c3 ?c4 (hBa _) ?_))
    case c2=>simp[UQ,Value.oneCell']
    case c3=>unfold maxLen;omega
    case c4=>omega
    intro v' u9 hown hgrow _ _;obtain⟨ua,hua,ba⟩:∃y,u5.alloc (.cells #[Vi x'.k,.bool x'.s,Vi x'.m,Vi x'.h,Vi x'.lo,Vi x'.hi] 42)=y/\Below u5.heap.size u5 y:=⟨_,rfl,Ak⟩
    rw[hua]at hgrow;have D11:=hxy ((D8.out.below ba).growR (x:=x') hgrow hown);have hx9:=BJ (D8.out.below ba).X hgrow (Am (D8.out.below ba).X (D8.out.below ba).R (by decide));have z0:=(AY hx9 1).trans rfl;have zf:=Cr hx9;have zl:=Bb hx9;obtain⟨vb2,vcp,rfl⟩:=II hown;clear hown hgrow ba hua hx9 D8 N8 x0 x1 xf xz c0 c1 c2 c3 c4 c5 cf cl OA HCN hBa;go_wp2_with fail;go_roundw
    case rel=>exact⟨_,vs++[x'],by simp,by simp;omega,(fun h hh=>by
     rcases List.mem_append.1 hh with hh|hh
     ·exact HVS.out h hh
     ·obtain rfl:=List.mem_singleton.1 hh
      exact GX'.out),D11.out⟩
    case measure=>simp[intOf];omega
structure MX(w:World)(p:Nat)(ao:Option Addr)(n cap:Nat)(bA cA:Nat)(V:Nat->VV)(z c:Int)(bb r q:Nat)(x:IV)(u:World):Prop where
 I:IW w p ao n cap r q x u
 A:V3 u bb 136 (Vs bA 8 cA) (Vi z) (Vi c)
 G:A9 u bA (8*6) (vF V)
 o1:w.heap.size=bb
 o2:bb<r
 o3:r<q
 o4:bA<w.heap.size
 o5:bA≠p
section
variable{w:World}{p:Nat}{ao:Option Addr}{n cap:Nat}{bA cA:Nat}{V:Nat->VV}{z c:Int}{bb r q:Nat}{x:IV}{u u':World}
theorem MX.fw(h:MX w p ao n cap bA cA V z c bb r q x u)(f:Fw p u u')(k:Bj u' p ao n cap):MX w p ao n cap bA cA V z c bb r q x u':=
 ⟨h.I.fw f k,CJ h.A f (by have:=h.I.pw;have:=h.o1;omega),f.arr h.G h.o5,h.o1,h.o2,h.o3,h.o4,h.o5⟩
theorem MX.below(h:MX w p ao n cap bA cA V z c bb r q x u)(f:Below u.heap.size u u'):MX w p ao n cap bA cA V z c bb r q x u':=h.fw (.of_below f) (h.I.K.below f)
theorem MX.set(h:MX w p ao n cap bA cA V z c bb r q x u){y:IV}{j:Nat}(hi:IW w p ao n cap r q y (u.setCell (Va q j) v)):MX w p ao n cap bA cA V z c bb r q y (u.setCell (Va q j) v):=by
 have o1:=h.o1;have o2:=h.o2;have o3:=h.o3;have o4:=h.o4;exact⟨hi,h.A.put (by omega) _ _,h.G.other (by show q≠bA;omega) _,o1,o2,o3,o4,h.o5⟩
theorem MX.acells(h:MX w p ao n cap bA cA V z c bb r q x u):u.cell? (Va bb 0)=some (Vs bA 8 cA)/\bb<u.heap.size/\bA<u.heap.size:=⟨h.A.cells.1,h.A.lt,h.G.lt⟩
end
theorem KF(p:Nat)(ao:Option Addr)(n cap:Nat)(bA cA:Nat)(V:Nat->VV)(z c:Int)(w:World)(hc:Bj w p ao n cap)(hA:A9 w bA (8*6) (vF V))(hp:bA≠p):
 Calls Tryz.prog 140 #[Vq p,.agg #[Vs bA 8 cA,Vi z,Vi c]] w fun e w'=>∃x:IV,e=.returned (.agg x.c)/\Fw p w w'/\Bj w' p ao n cap:=by
 have HC:=hxy hc;have HA:=hxy hA;have lp:=hc.lt;have lA:=hA.lt;clear hc hA;go_enter Tryz.func140,Tryz.ntmps140;go_wp2_with fail;obtain⟨u0,hu0,b0,pa,pr⟩:∃y,(w.alloc (.cells #[Vs bA 8 cA,Vi z,Vi c] 136)).alloc (.cells #[Vi 0,Vi 0,Vi 0,Vi 0,Vi 0,Vi 0] 87)=y/\Below w.heap.size w y/\V3 y w.heap.size 136 (Vs bA 8 cA) (Vi z) (Vi c)/\Ib y (w.heap.size+1) ⟨0,0,0,0,0,0⟩:=by
  have e1:(w.alloc (.cells #[Vs bA 8 cA,Vi z,Vi c] 136)).heap.size=w.heap.size+1:=by simp
  refine⟨_,rfl,(Ak).alloc (by simp) _,(V3.new _ _ _ _ _).below Ak,?_⟩;rw[<-e1];exact Bh _ _
 rw[hu0];refine(Iu p ao n cap 21 28 _ (by omega) (by omega) (by omega) (HC.out.below b0)).mono ?_;rintro e u1⟨x,rfl,hxb,f,k⟩;have B1:=hxy ((Fw.of_below b0).trans f);have PA:Hid (V3 u1 w.heap.size 136 (Vs bA 8 cA) (Vi z) (Vi c)):=CJ pa f (by omega);have PR:Hid (Ib u1 (w.heap.size+1) ⟨0,0,0,0,0,0⟩):=pr.fw f (by omega);have GA:=hxy (f.arr (HA.out.below b0 lA) hp);have K1:=hxy k;have HXB:=hxy hxb;clear hu0 b0 pa pr f k hxb HC HA;unfold IV.c;go_upto_region 2 with fail;obtain⟨u2,hu2,m2⟩:∃y,u1.alloc (.cells #[Vi x.o,Vi x.d,Vi x.a,Vi x.b,Vi x.i,Vi x.h] 87)=y/\MX w p ao n cap bA cA V z c w.heap.size (w.heap.size+1) u1.heap.size x y:=by
  have bn:Below u1.heap.size u1 (u1.alloc (.cells #[Vi x.o,Vi x.d,Vi x.a,Vi x.b,Vi x.i,Vi x.h] 87)):=Ak;have lr:=PR.out.lt;exact⟨_,rfl,⟨B1.out.trans (.of_below bn),K1.out.below bn,PR.out.below bn,Bh _ _,lp,by omega,by omega,by omega,HXB.out⟩,PA.out.below bn,GA.out.below bn GA.out.lt,rfl,by omega,by omega,lA,hp⟩
 rw[hu2];obtain⟨bb,hbb⟩:=Ae w.heap.size;obtain⟨r,hr⟩:=Ae (w.heap.size+1);obtain⟨q,hq⟩:=Ae u1.heap.size;have M2:Hid (MX w p ao n cap bA cA V z c bb r q x u2):=by rw[<-hbb,<-hr,<-hq];exact m2
 rw[hq,hr,hbb];clear hu2 m2 hbb hr hq B1 PA PR GA K1 HXB lA;go_wp2_with fail;refine(IG p ao n cap _ M2.out.I.K).mono ?_;rintro e u3⟨y,rfl,y0,y8,f,k⟩;have M3:=hxy (M2.out.fw f k);clear f k M2;go_upto_block 0 with fail;go_cut [6](fun s6 wx=>∃j:Nat,s6=Vi (j:Int)/\j<8/\MX w p ao n cap bA cA V z c bb r q x wx)
 case first=>
  go_wp2_with fail;go_loopw [6,7](fun rv kv wr=>∃(k j:Nat),rv=Vi (j:Int)/\kv=Vi (k:Int)/\k<=8/\j<8/\MX w p ao n cap bA cA V z c bb r q x wr)(fun _ kv _=>8-(intOf kv).toNat)
  case atStart=>exact⟨0,y.toNat,by rw[show(y.toNat:Int)=y by omega],rfl,by omega,by omega,M3.out⟩
  case round=>
   clear M3;obtain⟨k,j,rfl,rfl,hk,hj,mx⟩:=hrel;have M4:=hxy mx;clear mx;by_cases hk8:k<8
   rotate_left
   ·have e1:decide ((k:Int)<8)=false:=by simp;omega
    go_wp2_with fail;go_meet;exact⟨j,rfl,hj,M4.out⟩
   have e1:decide ((k:Int)<8)=true:=by simp;omega
   obtain⟨a0,al,gl⟩:=M4.out.acells;obtain⟨g0,_,_,_,_,_⟩:=ML M4.out.G hj;have hj8:(j:Int)<8:=by omega
   by_cases hk1:(V j).k=1
   ·have e2:((V j).k !=1)=false:=by simp[hk1]
    have HK1:=hxy hk1;clear hk1;go_wp2_with fail;go_meet;exact⟨j,rfl,hj,M4.out⟩
   ·have e2:((V j).k !=1)=true:=by simp[hk1]
    go_wp2_with fail;go_roundw
    case rel=>exact⟨k+1,(j+1)%8,by congr 1,by go_num,by omega,by omega,M4.out⟩
    case measure=>simp[intOf];omega
 case rest=>
 clear M3 y0 y8;obtain⟨j,rfl,hj,mx⟩:=hcut;have M4:=hxy mx;clear mx;generalize wc=u4 at M4⊢;obtain⟨a0,al,gl⟩:=M4.out.acells;obtain⟨_,_,_,g3,_,_⟩:=ML M4.out.G hj;have hj8:(j:Int)<8:=by omega
 obtain⟨c0,c1,c2,c3,c4,c5,cf,cl⟩:=M4.out.I.X.cells;have hqb:q≠bb:=by have:=M4.out.o2;have:=M4.out.o3;omega
 have hqA:q≠bA:=by have:=M4.out.o1;have:=M4.out.o2;have:=M4.out.o3;have:=M4.out.o4;omega
 go_upto_region 9 with fail;obtain⟨u5,hu5,m5⟩:∃y,(u4.setCell (Va q 2) (Vi (j:Int))).setCell (Va q 5) (Vi (V j).h)=y/\MX w p ao n cap bA cA V z c bb r q {x with a:=(j:Int),h:=(V j).h} y:=⟨_,rfl,by
  have s1:=M4.out.set (M4.out.I.setA (j:Int));exact s1.set (s1.I.setH (V j).h)⟩
 rw[hu5];obtain⟨x5,hx5⟩:∃y:IV,{x with a:=(j:Int),h:=(V j).h}=y:=⟨_,rfl⟩
 rw[hx5]at m5;have M5:=hxy m5;clear hu5 m5 hx5 M4 a0 al gl g3 c0 c1 c2 c3 c4 c5 cf cl;obtain⟨c0,c1,c2,c3,c4,c5,cf,cl⟩:=M5.out.I.X.cells;go_upto_if 40 with fail;go_cut [5](fun s5 wx=>s5=Vq q/\∃x6,MX w p ao n cap bA cA V z c bb r q x6 wx)
 case first=>
  by_cases ho:x5.o<25
  ·go_wp2_with fail
   refine(Aa p ao n cap 12 _ (by omega) M5.out.I.K).mono ?_;rintro e u6⟨i,rfl,i0,i1,f,k⟩;have M6:=hxy (M5.out.fw f k);clear f k c0 c1 c2 c3 c4 c5 cf cl;obtain⟨c0,c1,c2,c3,c4,c5,cf,cl⟩:=M6.out.I.X.cells;go_wp2_with fail;go_meet;exact⟨rfl,_,M6.out.set (M6.out.I.setI i)⟩
  ·go_wp2_with fail
   go_meet;exact⟨rfl,_,M5.out⟩
 case rest=>
 clear M5 c0 c1 c2 c3 c4 c5 cf cl;obtain⟨rfl,x6,mx⟩:=hcut;have M6:=hxy mx;clear mx;generalize wc=u6 at M6⊢;obtain⟨c0,c1,c2,c3,c4,c5,cf,cl⟩:=M6.out.I.X.cells;go_upto_if 46 with fail;go_cut [5](fun s5 wx=>s5=Vq q/\∃x6,MX w p ao n cap bA cA V z c bb r q x6 wx)
 case first=>
  by_cases ho:25<=x6.o
  rotate_left
  ·go_wp2_with fail
   go_meet;exact⟨rfl,_,M6.out⟩
  rw[show decide (25<=x6.o)=true from decide_eq_true ho];clear ho;go_wp2_with fail;clear c0 c1 c2 c3 c4 c5 cf cl;go_loopw [8](fun kv wr=>∃(k:Nat)(x7:IV),kv=Vi (k:Int)/\k<=8/\MX w p ao n cap bA cA V z c bb r q x7 wr)(fun kv _=>8-(intOf kv).toNat)
  case atStart=>exact⟨0,x6,rfl,by omega,M6.out⟩
  case round=>
   clear M6;obtain⟨k,x7,rfl,hk,mx⟩:=hrel;have M7:=hxy mx;clear mx;by_cases hk8:k<8
   rotate_left
   ·have e1:decide ((k:Int)<8)=false:=by simp;omega
    go_wp2_with fail;go_meet;exact⟨rfl,_,M7.out⟩
   have e1:decide ((k:Int)<8)=true:=by simp;omega
   obtain⟨jb,hjb,hjb8⟩:∃jb:Nat,x7.b=(jb:Int)/\jb<8:=⟨x7.b.toNat,by have:=M7.out.I.rb;omega,by have:=M7.out.I.rb;omega⟩
   obtain⟨a0,al,gl⟩:=M7.out.acells;obtain⟨c0,c1,c2,c3,c4,c5,cf,cl⟩:=M7.out.I.X.cells;obtain⟨g0,g1,g2,g3,g4,g5⟩:=ML M7.out.G hjb8;rw[hjb]at c3;have HJB:=hxy hjb;have hj8:(jb:Int)<8:=by omega
   clear hjb;go_wp2_with fail;refine(Cc _ _ _ _ _ _ _).mono ?_;rintro e y8⟨rfl,hb⟩;have M8:=hxy (M7.out.below hb);clear hb M7 a0 al gl c0 c1 c2 c3 c4 c5 cf cl g0 g1 g2 g3 g4 g5;obtain⟨mx,hmx⟩:∃y:Int,Ao ⟨(V jb).k,(V jb).s,(V jb).m,(V jb).h,(V jb).lo,(V jb).hi⟩=y:=⟨_,rfl⟩
   rw[hmx];clear hmx;obtain⟨a0,al,gl⟩:=M8.out.acells;obtain⟨c0,c1,c2,c3,c4,c5,cf,cl⟩:=M8.out.I.X.cells;obtain⟨g0,g1,g2,g3,g4,g5⟩:=ML M8.out.G hjb8;rw[HJB.out]at c3;have GO:Hid (MX w p ao n cap bA cA V z c bb r q {x7 with b:=((jb+1)%8:Nat)} (y8.setCell (Va q 3) (Vi ((jb+1)%8:Nat)))):=M8.out.set (M8.out.I.setB _ ⟨by omega,by omega⟩);obtain⟨jm,hjm⟩:∃y:Nat,(jb+1)%8=y:=⟨_,rfl⟩
   rw[hjm]at GO;have HM2:Hid (((jb:Int)+1)%8=(jm:Int)):=(by omega:((jb:Int)+1)%8=(jm:Int))
   clear hjm;obtain⟨sc,hsc⟩:=Ae ((V jb).s);rw[hsc]at g1;have M9:=hxy M8.out;clear M8 hsc;by_cases hm:mx<0
   ·have e2:decide (mx<0)=true:=by simp;omega
    go_wp2_with fail;go_roundw
    case rel=>exact⟨k+1,{x7 with b:=((jb:Int)+1)%8},by go_num,by omega,by rw[HM2.out];exact GO.out⟩
    case measure=>simp[intOf];omega
   ·have e2:decide (mx<0)=false:=by simp;omega
    cases sc with
    |true=>
     go_wp2_with fail;go_roundw
     case rel=>exact⟨k+1,{x7 with b:=((jb:Int)+1)%8},by go_num,by omega,by rw[HM2.out];exact GO.out⟩
     case measure=>simp[intOf];omega
    |false=>
     go_wp2_with fail;go_meet;exact⟨rfl,_,M9.out⟩
 case rest=>
 clear M6 c0 c1 c2 c3 c4 c5 cf cl;obtain⟨rfl,x8,mx⟩:=hcut;have M8:=hxy mx;clear mx;generalize wc=y8 at M8⊢;go_wp2_with fail;refine(Dh p ao n cap 12 _ (by omega) M8.out.I.K).mono ?_;rintro e u9⟨b,rfl,f,k⟩;have M9:=hxy (M8.out.fw f k);clear f k M8;go_upto_if 76 with fail;go_cut [5](fun s5 wx=>s5=Vq q/\∃x6,MX w p ao n cap bA cA V z c bb r q x6 wx)
 case first=>
  cases b with
  |false=>
   go_wp2_with fail;go_meet;exact⟨rfl,_,M9.out⟩
  |true=>
   go_wp2_with fail;refine(Aa p ao n cap 4 _ (by omega) M9.out.I.K).mono ?_;rintro e u10⟨i,rfl,i0,i1,f,k⟩;have M10:=hxy (M9.out.fw f k);clear f k;obtain⟨c0,c1,c2,c3,c4,c5,cf,cl⟩:=M10.out.I.X.cells;go_wp2_with fail;go_meet;exact⟨rfl,_,M10.out.set (M10.out.I.setH i)⟩
 case rest=>
 clear M9;obtain⟨rfl,x9,mx⟩:=hcut;have M10:=hxy mx;clear mx;generalize wc=u10 at M10⊢;obtain⟨c0,c1,c2,c3,c4,c5,cf,cl⟩:=M10.out.I.X.cells;obtain⟨b0,b1,b2,b3,b4,b5,bf,bl⟩:=M10.out.I.R.cells;have FF:Hid (∀v0 v1 v2 v3 v4 v5,Fw p w ((((((u10.setCell (Va r 0) v0).setCell (Va r 1) v1).setCell (Va r 2) v2).setCell (Va r 3) v3).setCell (Va r 4) v4).setCell (Va r 5) v5)/\Bj ((((((u10.setCell (Va r 0) v0).setCell (Va r 1) v1).setCell (Va r 2) v2).setCell (Va r 3) v3).setCell (Va r 4) v4).setCell (Va r 5) v5) p ao n cap):=fun v0 v1 v2 v3 v4 v5=>by
  have hr:=M10.out.I.wr;have hp:p<r:=by omega
  exact⟨(((((M10.out.I.F.put hr _ _).put hr _ _).put hr _ _).put hr _ _).put hr _ _).put hr _ _,(((((M10.out.I.K.put hp _ _).put hp _ _).put hp _ _).put hp _ _).put hp _ _).put hp _ _⟩
 have hne:=M10.out.I.ne;clear M10;go_wp2_with fail;exact bodyPost_ret (v:=.agg x9.c) (by simp[results,Tryz.results140,go_sem,IV.c, *]) rfl ⟨⟨x9,rfl⟩,(FF.out _ _ _ _ _ _).1,(FF.out _ _ _ _ _ _).2⟩
def gb:Nat->Nat
 |0=>1
 |d+1=>6+5*gb d
theorem NA:∀d,1<=gb d
 |0=>jG
 |d+1=>by show 1<=6+5*gb d;omega
def Wi(nH:Nat)(S:Nat->HS)(V0:Nat->VV)(bA m:Nat)(w:World)(p:Nat)(ao:Option Addr)(n cap:Nat)(e:Ending)(w':World):Prop:=
 ∃(g cg:Nat)(xs:List SV)(gA cA:Nat)(V:Nat->VV)(z c:Int),e=.returned (.tuple #[Vs g xs.length cg,.agg #[Vs gA 8 cA,Vi z,Vi c]])/\Wl xs/\xs.length<=m/\w'.ownsRow w.heap.size 89 11 (Vs g xs.length cg) xs.length (BZ xs)/\(gA=bA∨w.heap.size<=gA)/\A9 w' gA (8*6) (vF V)/\BA nH S 8 V0 8 V z c=true/\Fw p w w'/\Bj w' p ao n cap
structure Ep(w:World)(p:Nat)(ao:Option Addr)(n cap:Nat)(bH cH nH:Nat)(S:Nat->HS)(bR cR:Nat)(V0:Nat->VV)(bA cA:Nat)(V:Nat->VV)(z c:Int)(bs ba br:Nat)(u:World):Prop where
 F:Fw p w u
 K:Bj u p ao n cap
 sg:u.heap[bs]?=some (.cells #[Vs bH nH cH,Vs bR 8 cR] 26)
 A:V3 u ba 136 (Vs bA 8 cA) (Vi z) (Vi c)
 R:V3 u br 136 (.slice none 0 0) (Vi 0) (Vi 0)
 sc:Bl u bH nH S bR 8 V0
 G:A9 u bA (8*6) (vF V)
 ok:BA nH S 8 V0 8 V z c=true
 lH:nH<=8
 pw:p<w.heap.size
 o1:w.heap.size=bs
 o2:bs<ba
 o3:ba<br
 n1:bH<w.heap.size
 n2:bR<w.heap.size
 n3:bA≠br
 p1:bH≠p
 p2:bR≠p
 p3:bA≠p
section
variable{w:World}{p:Nat}{ao:Option Addr}{n cap:Nat}{bH cH nH:Nat}{S:Nat->HS}{bR cR:Nat}{V0:Nat->VV}{bA cA:Nat}{V:Nat->VV}{z c:Int}{bs ba br:Nat}{u u':World}
theorem Ep.fw(h:Ep w p ao n cap bH cH nH S bR cR V0 bA cA V z c bs ba br u)(f:Fw p u u')(k:Bj u' p ao n cap):Ep w p ao n cap bH cH nH S bR cR V0 bA cA V z c bs ba br u':=by
 have o0:=h.pw;have o1:=h.o1;have o2:=h.o2;have o3:=h.o3;exact⟨h.F.trans f,k,CJ h.sg f (by omega),CJ h.A f (by omega),CJ h.R f (by omega),⟨f.arr h.sc.h h.p1,f.arr h.sc.r h.p2⟩,f.arr h.G h.p3,h.ok,h.lH,o0,o1,o2,o3,h.n1,h.n2,h.n3,h.p1,h.p2,h.p3⟩
theorem Ep.below(h:Ep w p ao n cap bH cH nH S bR cR V0 bA cA V z c bs ba br u)(f:Below u.heap.size u u'):Ep w p ao n cap bH cH nH S bR cR V0 bA cA V z c bs ba br u':=h.fw (.of_below f) (h.K.below f)
theorem Ep.put(h:Ep w p ao n cap bH cH nH S bR cR V0 bA cA V z c bs ba br u)(hq:br<q)(hA:bA≠q)(j:Nat)(v:Value):Ep w p ao n cap bH cH nH S bR cR V0 bA cA V z c bs ba br (u.setCell (Va q j) v):=by
 have o0:=h.pw;have o1:=h.o1;have o2:=h.o2;have o3:=h.o3;have n1:=h.n1;have n2:=h.n2;exact⟨h.F.put (by omega) _ _,h.K.put (by omega) _ _,Av h.sg (by omega) _ _,Av h.A (by omega) _ _,Av h.R (by omega) _ _,⟨h.sc.h.other (by show q≠bH;omega) _,h.sc.r.other (by show q≠bR;omega) _⟩,h.G.other (by show q≠bA;omega) _,h.ok,h.lH,o0,o1,o2,o3,n1,n2,h.n3,h.p1,h.p2,h.p3⟩
theorem Ep.put6(h:Ep w p ao n cap bH cH nH S bR cR V0 bA cA V z c bs ba br u)(hq:br<q)(hA:bA≠q)(a0 a1 a2 a3 a4 a5:Value):Ep w p ao n cap bH cH nH S bR cR V0 bA cA V z c bs ba br (Gn u q a0 a1 a2 a3 a4 a5):=
 (((((h.put hq hA _ _).put hq hA _ _).put hq hA _ _).put hq hA _ _).put hq hA _ _).put hq hA _ _
theorem Ep.cells(h:Ep w p ao n cap bH cH nH S bR cR V0 bA cA V z c bs ba br u):(u.cell? (Va bs 0)=some (Vs bH nH cH)/\u.cell? (Va bs 1)=some (Vs bR 8 cR))/\(u.cell? (Va ba 0)=some (Vs bA 8 cA)/\u.cell? (Va ba 1)=some (Vi z)/\u.cell? (Va ba 2)=some (Vi c))/\bs<u.heap.size/\ba<u.heap.size:=
 ⟨⟨(AY h.sg 0).trans rfl,(AY h.sg 1).trans rfl⟩,h.A.cells,Bb h.sg,h.A.lt⟩
end
theorem Ph(w:World){ao:Option Addr}{cap:Nat}{bH cH nH:Nat}{S:Nat->HS}{bR cR:Nat}{V0:Nat->VV}{bA cA:Nat}{V:Nat->VV}{z c:Int}(hc:Bj w p ao n cap)(h1:Bl w bH nH S bR 8 V0)(h2:A9 w bA (8*6) (vF V))(h3:BA nH S 8 V0 8 V z c=true)(p1:bH≠p)(p2:bR≠p)(p3:bA≠p):
 Ep w p ao n cap bH cH nH S bR cR V0 bA cA V z c w.heap.size (w.heap.size+1) (w.heap.size+1+1) (((w.alloc (.cells #[Vs bH nH cH,Vs bR 8 cR] 26)).alloc (.cells #[Vs bA 8 cA,Vi z,Vi c] 136)).alloc (.cells #[.slice none 0 0,Vi 0,Vi 0] 136)):=by
 have n0:=Bh w (.cells #[Vs bH nH cH,Vs bR 8 cR] 26);generalize hx:w.alloc (.cells #[Vs bH nH cH,Vs bR 8 cR] 26)=x at *;have s0:x.heap.size=w.heap.size+1:=by rw[<-hx];simp
 have b0:Below w.heap.size w x:=by rw[<-hx];exact Ak
 have n1:=V3.new x 136 (Vs bA 8 cA) (Vi z) (Vi c);generalize hy:x.alloc (.cells #[Vs bA 8 cA,Vi z,Vi c] 136)=y at *;have s1:y.heap.size=w.heap.size+1+1:=by rw[<-hy];simp[s0]
 have b1:Below x.heap.size x y:=by rw[<-hy];exact Ak
 have n2:=V3.new y 136 (.slice none 0 0) (Vi 0) (Vi 0);have b2:Below y.heap.size y (y.alloc (.cells #[.slice none 0 0,Vi 0,Vi 0] 136)):=Ak;have bb:Below w.heap.size w (y.alloc (.cells #[.slice none 0 0,Vi 0,Vi 0] 136)):=(b0.trans (b1.mono (by omega))).trans (b2.mono (by omega));rw[s0]at n1;rw[s1]at n2;have l2:=h2.lt;exact⟨.of_below bb,hc.below bb,Aw (Aw n0 b1) b2,n1.below b2,n2,h1.below bb,h2.below bb h2.lt,h3,(OX h3).2.1,hc.lt,rfl,by omega,by omega,h1.h.lt,h1.r.lt,by omega,p1,p2,p3⟩
theorem Ef{w:World}(h:Fw p w u)(hb:w.heap.size<=b)(x y z:Value):Fw p w (((u.setCell (Va b 0) x).setCell (Va b 1) y).setCell (Va b 2) z):=((h.put hb _ _).put hb _ _).put hb _ _
theorem EC{cap:Nat}{ao:Option Addr}(h:Bj u p ao n cap)(hb:p<b)(x y z:Value):Bj (((u.setCell (Va b 0) x).setCell (Va b 1) y).setCell (Va b 2) z) p ao n cap:=((h.put hb _ _).put hb _ _).put hb _ _
theorem DY{g:Nat}{f:Nat->Value}(h:A9 u g n f)(hn:g≠b)(x y z:Value):A9 (((u.setCell (Va b 0) x).setCell (Va b 1) y).setCell (Va b 2) z) g n f:=((h.other (fun e=>hn e.symm) _).other (fun e=>hn e.symm) _).other (fun e=>hn e.symm) _
theorem Dj{base size:Nat}(h:u.ownsRow base e size v n xs)(hn:v.ownBlock≠some b)(x y z:Value):(((u.setCell (Va b 0) x).setCell (Va b 1) y).setCell (Va b 2) z).ownsRow base e size v n xs:=Cs (Cs (Cs h hn _ _) hn _ _) hn _ _
theorem Tn.set3{u':World}(h:Tn (some b) u u')(x y z:Value):Tn (some b) u (((u'.setCell (Va b 0) x).setCell (Va b 1) y).setCell (Va b 2) z):=fun q hq hn=>by
 have hne:q≠b:=fun e=>hn (by rw[e])
 rw[Below.heap_setCell _ ⟨b,2,none⟩ z q hne,Below.heap_setCell _ ⟨b,1,none⟩ y q hne,Below.heap_setCell _ ⟨b,0,none⟩ x q hne];exact h q hq hn
def MC(x:IV):SV:=⟨1,x.o,x.d,x.a,x.b,x.i,x.h,0,0,0,0⟩
theorem XT(x:IV):Wl [MC x]:=.ins rfl rfl rfl .nil
theorem E5(p:Nat)(ao:Option Addr)(n cap:Nat)(bH cH nH:Nat)(S:Nat->HS)(bR cR:Nat)(V0:Nat->VV)(bA cA:Nat)(V:Nat->VV)(z c busy:Int)(w:World)(hc:Bj w p ao n cap)(h1:Bl w bH nH S bR 8 V0)(h2:A9 w bA (8*6) (vF V))(h3:BA nH S 8 V0 8 V z c=true)(p1:bH≠p)(p2:bR≠p)(p3:bA≠p):
 Calls Tryz.prog 101 #[Vq p,.agg #[Vs bH nH cH,Vs bR 8 cR],.agg #[Vs bA 8 cA,Vi z,Vi c],Vi busy] w (Wi nH S V0 bA 1 w p ao n cap):=by
 have X0:Hid (Ep w p ao n cap bH cH nH S bR cR V0 bA cA V z c w.heap.size (w.heap.size+1) (w.heap.size+1+1) (((w.alloc (.cells #[Vs bH nH cH,Vs bR 8 cR] 26)).alloc (.cells #[Vs bA 8 cA,Vi z,Vi c] 136)).alloc (.cells #[.slice none 0 0,Vi 0,Vi 0] 136))):=Ph w hc h1 h2 h3 p1 p2 p3;have LA:=hxy h2.lt;clear hc h1 h2 h3 p1 p2 p3;go_enter Tryz.func101,Tryz.ntmps101;go_upto_region 1 with fail;obtain⟨u,hu⟩:=Ae (((w.alloc (.cells #[Vs bH nH cH,Vs bR 8 cR] 26)).alloc (.cells #[Vs bA 8 cA,Vi z,Vi c] 136)).alloc (.cells #[.slice none 0 0,Vi 0,Vi 0] 136));rw[hu]at X0⊢;obtain⟨bs,hbs⟩:=Ae w.heap.size;obtain⟨ba,hba⟩:=Ae (w.heap.size+1);obtain⟨br,hbr⟩:=Ae (w.heap.size+1+1);have X0:Hid (Ep w p ao n cap bH cH nH S bR cR V0 bA cA V z c bs ba br u):=by rw[<-hbs,<-hba,<-hbr];exact X0
 rw[hbr,hba,hbs];have BO:Hid (w.heap.size=bs/\bs<ba/\ba<br):=⟨hbs,by omega,by omega⟩
 clear hu hbs hba hbr;go_wp2_with fail;go_loopw [10](fun kv wr=>∃(k:Nat),kv=Vi (k:Int)/\k<=6/\Ep w p ao n cap bH cH nH S bR cR V0 bA cA V z c bs ba br wr)(fun kv _=>6-(intOf kv).toNat)
 case atStart=>exact⟨0,rfl,by omega,X0.out⟩
 case round=>
  clear X0;obtain⟨k,rfl,hk,x⟩:=hrel;have X:=hxy x;clear x;by_cases hk6:k<6
  rotate_left
  ·have hk6':¬(k:Int)<6:=by omega
   go_upto_region 11 with fail;have j0:∀w',Tn (some br) wr w'->w'.cell? (Va ba 0)=some (Vs bA 8 cA):=fun w' h=>(X.out.A.tn h (by have:=X.out.o3;simp;omega)).cells.1
   have j1:∀w',Tn (some br) wr w'->w'.cell? (Va ba 1)=some (Vi z):=fun w' h=>(X.out.A.tn h (by have:=X.out.o3;simp;omega)).cells.2.1
   have j2:∀w',Tn (some br) wr w'->w'.cell? (Va ba 2)=some (Vi c):=fun w' h=>(X.out.A.tn h (by have:=X.out.o3;simp;omega)).cells.2.2
   refine wp_region_held_drew (S:=fun w'=>Tn (some br) wr w') (by kernel_rfl) (Tn.of (Below.refl _ _).drew) (fun _=>?_);refine AB 1 rfl ?_;have hbd:Below wr.heap.size wr wr.drew:=(Below.refl _ _).drew;generalize wr.drew=t0 at hbd⊢;refine AO 0 rfl (fun KK hK=>?_);go_simp;obtain⟨t1,ht1,b1,o1⟩:∃y,t0.alloc (.cells #[] 89)=y/\Below t0.heap.size t0 y/\y.ownsRow t0.heap.size 89 11 (Vs t0.heap.size 0 0) 0 []:=⟨_,rfl,Ak,World.ownsRow_lit t0 #[] 0 jG (by unfold maxLen;omega) rfl⟩
   rw[ht1];have hB1:=hbd.trans (b1.mono hbd.size);refine hK.out _ _ (Tn.of hB1) (fun _=>?_);clear hK KK;try go_frame
   refine AB 2 rfl ?_;have X1:=X.out.below hB1;obtain⟨r0,r1,r2⟩:=X1.R.cells;have rf:=X1.R.free;have rl:=X1.R.lt;have hbz:br<t0.heap.size:=by have:=hbd.size;have:=X.out.R.lt;omega
   have HO:Hid (t1.ownsRow w.heap.size 89 11 (Vs t0.heap.size 0 0) 0 []):=Au o1 (by have:=X.out.F.size;have:=hbd.size;omega);obtain⟨nb,hnb⟩:=Ae t0.heap.size;rw[hnb]at HO hbz⊢;have RES:Hid (Fw p w t1/\Bj t1 p ao n cap/\A9 t1 bA (8*6) (vF V)/\BA nH S 8 V0 8 V z c=true/\bA≠br/\w.heap.size<=br/\p<br):=⟨X1.F,X1.K,X1.G,X1.ok,X1.n3,by have:=BO.out;omega,by have:=BO.out;have:=X1.pw;omega⟩
   have TT:Hid (Tn (some br) wr t1):=Tn.of hB1;clear hbd ht1 b1 o1 hB1 X1 hnb j0 j1 j2 X;refine AO 3 rfl (fun KK hK=>?_);go_simp;refine hK.out _ _ (TT.out.set3 _ _ _) (fun _=>?_);clear hK KK;refine wpAnyH_done (by kernel_rfl) ?_ _;go_wp2_with fail;refine bodyPost_ret (v:=.tuple #[Vs nb 0 0,.agg #[Vs bA 8 cA,Vi z,Vi c]]) (by simp[results,Tryz.results101,go_sem, *]) rfl ⟨nb,0,[],bA,cA,V,z,c,rfl,.nil,by simp,?_,Or.inl rfl,?_,RES.out.2.2.2.1,?_,?_⟩
   ·exact Dj HO.out (by intro e;have:nb=br:=Option.some.inj e;omega) _ _ _
   ·exact DY RES.out.2.2.1 RES.out.2.2.2.2.1 _ _ _
   ·exact Ef RES.out.1 RES.out.2.2.2.2.2.1 _ _ _
   ·exact EC RES.out.2.1 RES.out.2.2.2.2.2.2 _ _ _
  have hk6':(k:Int)<6:=by omega
  go_wp2_with fail;refine(Iu p ao n cap 1 20 _ (by omega) (by omega) (by omega) X.out.K).mono ?_;rintro e y1⟨x,rfl,_,f,k'⟩;have X1:=hxy (X.out.fw f k');clear f k' X;unfold IV.c;go_upto_region 5 with fail;obtain⟨y2,hy2,b2⟩:∃y,y1.alloc (.cells #[Vi x.o,Vi x.d,Vi x.a,Vi x.b,Vi x.i,Vi x.h] 87)=y/\Below y1.heap.size y1 y:=⟨_,rfl,Ak⟩
  have i2:Ib (y1.alloc (.cells #[Vi x.o,Vi x.d,Vi x.a,Vi x.b,Vi x.i,Vi x.h] 87)) y1.heap.size x:=Bh _ _;rw[hy2]at i2⊢;have X2:=hxy (X1.out.below b2);have hq0:=X1.out.R.lt;have hA0:bA≠y1.heap.size:=by have:=X1.out.G.lt;omega
  obtain⟨q,hq⟩:=Ae y1.heap.size;rw[hq]at i2 hq0 hA0⊢;have I2:=hxy i2;have hpq:q≠p:=by have:=X1.out.pw;have:=BO.out;omega
  clear hy2 b2 i2 hq X1;go_wp2_with fail;refine(Dh p ao n cap 3 _ (by omega) X2.out.K).mono ?_;rintro e y3⟨b,rfl,f,k'⟩;have X3:=hxy (X2.out.fw f k');have I3:=hxy (I2.out.fw f hpq);clear f k' X2 I2;go_upto_if 21 with fail;go_cut [11](fun s11 wx=>s11=Vq q/\∃x',Ep w p ao n cap bH cH nH S bR cR V0 bA cA V z c bs ba br wx/\Ib wx q x')
  case first=>
   cases b with
   |false=>
    go_wp2_with fail;go_meet;exact⟨rfl,x,X3.out,I3.out⟩
   |true=>
    obtain⟨_,⟨a0,a1,a2⟩,al1,al2⟩:=X3.out.cells;go_wp2_with fail;refine(KF p ao n cap bA cA V z c _ X3.out.K X3.out.G X3.out.p3).mono ?_;rintro e y4⟨x',rfl,f,k'⟩;have X4:=hxy (X3.out.fw f k');have I4:=hxy (I3.out.fw f hpq);clear f k' a0 a1 a2 al1 al2;unfold IV.c;obtain⟨c0,c1,c2,c3,c4,c5,cf,cl⟩:=I4.out.cells;go_wp2_with fail;go_meet;exact⟨rfl,x',X4.out.put6 hq0 hA0 _ _ _ _ _ _,LY I4.out _ _ _ _ _ _⟩
  case rest=>
  clear X3 I3;obtain⟨rfl,x',x3,i3⟩:=hcut;have X3:=hxy x3;have I3:=hxy i3;clear x3 i3;generalize wc=y3 at X3 I3⊢;obtain⟨⟨s0,s1⟩,⟨a0,a1,a2⟩,al1,al2⟩:=X3.out.cells;obtain⟨c0,c1,c2,c3,c4,c5,cf,cl⟩:=I3.out.cells;go_wp2_with fail;refine(Dt bH cH nH S bR cR 8 V0 bA cA 8 V z c x'.o x'.d x'.a x'.b x'.i x'.h y3 (by have:=X3.out.lH;omega) (by omega) (by omega) X3.out.sc X3.out.G).mono ?_;rintro e y4⟨err,V2,z2,c2',hans,hok,_,hb⟩;have X4:=hxy (X3.out.below hb);have I4:=hxy (I3.out.below hb);have hq1:=I3.out.lt;have HOK:=hxy hok;obtain⟨va,vn,vc,zz,cc,HANS⟩:∃(va:Option Addr)(vn vc:Nat)(zz cc:Int),Hid (e=.returned (.agg #[Vi err,.slice va vn vc,Vi zz,Vi cc])/\(err=0->zz=z2/\cc=c2'/\∃g cg,y3.heap.size<=g/\va=some ⟨g,0,none⟩/\vn=8/\vc=cg/\A9 y4 g (8*6) (vF V2))):=by
   rcases hans with⟨hne,h⟩|⟨h0,g,cg,h1,h2,h3⟩
   ·exact⟨none,0,0,0,0,h,fun e=>absurd e hne⟩
   ·subst h0
    exact⟨_,_,_,_,_,h2,fun _=>⟨rfl,rfl,g,cg,h1,rfl,rfl,rfl,h3⟩⟩
  obtain⟨he,HAN⟩:=HANS.out;subst he;have HAN:=hxy HAN;clear hans hok hb HANS X3 I3 s0 s1 a0 a1 a2 al1 al2 c0 c1 c2 c3 c4 c5 cf cl;go_upto_region 8 with fail;obtain⟨y5,hy5,b5⟩:∃y,y4.alloc (.cells #[Vi err,.slice va vn vc,Vi zz,Vi cc] 231)=y/\Below y4.heap.size y4 y:=⟨_,rfl,Ak⟩
  have n5:=Bh y4 (.cells #[Vi err,.slice va vn vc,Vi zz,Vi cc] 231);rw[hy5]at n5⊢;have X5:=hxy (X4.out.below b5);have I5:=hxy (I4.out.below b5);have HAN5:Hid (err=0->zz=z2/\cc=c2'/\∃g cg,y3.heap.size<=g/\va=some ⟨g,0,none⟩/\vn=8/\vc=cg/\A9 y5 g (8*6) (vF V2)):=fun e=>by
   obtain⟨h1,h2,g,cg,h3,h4,h5,h6,h7⟩:=HAN.out e;exact⟨h1,h2,g,cg,h3,h4,h5,h6,h7.below b5 h7.lt⟩
  obtain⟨nt,hnt⟩:=Ae y4.heap.size;have hqt:=X4.out.R.lt;rw[hnt]at n5 hqt⊢;have N5:=hxy n5;clear hy5 b5 n5 hnt X4 I4 HAN;go_cut [13](fun s13 wx=>∃b:Bool,s13=.bool b/\wx=y5)
  case first=>
   obtain⟨c0,c1,c2,c3,c4,c5,cf,cl⟩:=I5.out.cells;by_cases h23:x'.o=23
   ·have e1:(x'.o==23)=true:=by simp[h23]
    clear h23;go_wp2_with fail;go_meet;exact⟨_,rfl,rfl⟩
   have e1:(x'.o==23)=false:=by simp[h23]
   by_cases h24:x'.o=24
   ·have e2:(x'.o==24)=true:=by simp[h24]
    clear h23 h24;go_wp2_with fail;go_meet;exact⟨_,rfl,rfl⟩
   have e2:(x'.o==24)=false:=by simp[h24]
   by_cases h27:x'.o=27
   ·have e3:(x'.o==27)=true:=by simp[h27]
    clear h23 h24 h27;go_wp2_with fail;go_meet;exact⟨_,rfl,rfl⟩
   have e3:(x'.o==27)=false:=by simp[h27]
   clear h23 h24 h27;go_wp2_with fail;go_meet;exact⟨_,rfl,rfl⟩
  case rest=>
  obtain⟨b13,rfl,hwc⟩:=hcut;rw[hwc];clear hwc;go_upto_region 9 with fail;go_cut [58](fun s58 wx=>∃b:Bool,s58=.bool b/\(b=true->err=0)/\wx=y5)
  case first=>
   obtain⟨c0,c1,c2,c3,c4,c5,cf,cl⟩:=I5.out.cells;have v0:=(AY N5.out 0).trans rfl;have vl:=Bb N5.out;by_cases h0:err=0
   ·have e1:(err==0)=true:=by simp[h0]
    have HE0:=hxy h0;clear h0;obtain⟨d1,hd1⟩:=Ae ((x'.d !=busy));cases d1 with
    |true=>
     go_wp2_with fail;go_meet;exact⟨_,rfl,fun _=>HE0.out,rfl⟩
    |false=>
     go_wp2_with fail;go_meet
     exact⟨_,rfl,fun _=>HE0.out,rfl⟩
   ·have e1:(err==0)=false:=by simp[h0]
    go_wp2_with fail
    go_meet
    exact⟨_,rfl,(by intro e;cases e),rfl⟩
  case rest=>
  obtain⟨b58,rfl,hb58,hwc⟩:=hcut
  rw[hwc]
  clear hwc
  cases b58 with
  |false=>
   clear hb58
   go_wp2_with fail
   go_roundw
   case rel=>exact⟨k+1,by go_num,by omega,X5.out⟩
   case measure=>simp[intOf];omega
  |true=>
   have h0:=hb58 rfl
   subst h0
   clear hb58
   obtain⟨hz,hcc,g,cg,hg,rfl,rfl,rfl,hG⟩:=HAN5.out rfl
   subst hz hcc
   have OK2:Hid (BA nH S 8 V0 8 V2 zz cc=true):=HOK.out rfl
   have hgbr:g≠br:=by omega
   have HG:=hxy hG
   have hbrq:br≠q:=by omega
   have hbrt:br≠nt:=by omega
   go_upto_region 10 with fail
   have c0:∀w',Tn (some br) y5 w'->w'.cell? (Va q 0)=some (Vi x'.o):=fun w' h=>(World.cell?_of_block (a:=Va q 0) (h q I5.out.lt (by simp;omega))).trans I5.out.cells.1
   have c1:∀w',Tn (some br) y5 w'->w'.cell? (Va q 1)=some (Vi x'.d):=fun w' h=>(World.cell?_of_block (a:=Va q 1) (h q I5.out.lt (by simp;omega))).trans I5.out.cells.2.1
   have c2:∀w',Tn (some br) y5 w'->w'.cell? (Va q 2)=some (Vi x'.a):=fun w' h=>(World.cell?_of_block (a:=Va q 2) (h q I5.out.lt (by simp;omega))).trans I5.out.cells.2.2.1
   have c3:∀w',Tn (some br) y5 w'->w'.cell? (Va q 3)=some (Vi x'.b):=fun w' h=>(World.cell?_of_block (a:=Va q 3) (h q I5.out.lt (by simp;omega))).trans I5.out.cells.2.2.2.1
   have c4:∀w',Tn (some br) y5 w'->w'.cell? (Va q 4)=some (Vi x'.i):=fun w' h=>(World.cell?_of_block (a:=Va q 4) (h q I5.out.lt (by simp;omega))).trans I5.out.cells.2.2.2.2.1
   have c5:∀w',Tn (some br) y5 w'->w'.cell? (Va q 5)=some (Vi x'.h):=fun w' h=>(World.cell?_of_block (a:=Va q 5) (h q I5.out.lt (by simp;omega))).trans I5.out.cells.2.2.2.2.2.1
   have v1:∀w',Tn (some br) y5 w'->w'.cell? (Va nt 1)=some (Vs g 8 vc):=fun w' h=>(World.cell?_of_block (a:=Va nt 1) (h nt (Bb N5.out) (by simp;omega))).trans ((AY N5.out 1).trans rfl)
   have v2:∀w',Tn (some br) y5 w'->w'.cell? (Va nt 2)=some (Vi zz):=fun w' h=>(World.cell?_of_block (a:=Va nt 2) (h nt (Bb N5.out) (by simp;omega))).trans ((AY N5.out 2).trans rfl)
   have v3:∀w',Tn (some br) y5 w'->w'.cell? (Va nt 3)=some (Vi cc):=fun w' h=>(World.cell?_of_block (a:=Va nt 3) (h nt (Bb N5.out) (by simp;omega))).trans ((AY N5.out 3).trans rfl)
   refine wp_region_held_drew (S:=fun w'=>Tn (some br) y5 w') (by kernel_rfl) (Tn.of (Below.refl _ _).drew) (fun _=>?_)
   refine AB 0 rfl ?_
   refine AB 1 rfl ?_
   refine AB 3 rfl ?_
   refine AB 4 rfl ?_
   have hbd:Below y5.heap.size y5 y5.drew:=(Below.refl _ _).drew
   generalize y5.drew=t0 at hbd⊢
   refine AO 2 rfl (fun KK hK=>?_)
   go_simp
   obtain⟨t1,ht1,b1,o1⟩:∃y,t0.alloc (.cells #[Vi 1,Vi x'.o,Vi x'.d,Vi x'.a,Vi x'.b,Vi x'.i,Vi x'.h,Vi 0,Vi 0,Vi 0,Vi 0] 89)=y/\Below t0.heap.size t0 y/\y.ownsRow t0.heap.size 89 11 (Vs t0.heap.size 1 1) 1 (BZ [MC x']):=⟨_,rfl,Ak,by rw[ED];exact World.ownsRow_lit t0 (CV (MC x')).toArray 1 jG (by unfold maxLen;omega) rfl⟩
   rw[ht1]
   have hB1:=hbd.trans (b1.mono hbd.size)
   refine hK.out _ _ (Tn.of hB1) (fun _=>?_)
   clear hK KK
   try go_frame
   refine AB 5 rfl ?_
   have X1:=X5.out.below hB1
   obtain⟨r0,r1,r2⟩:=X1.R.cells
   have rf:=X1.R.free
   have rl:=X1.R.lt
   have hbz:br<t0.heap.size:=by have:=hbd.size;have:=X5.out.R.lt;omega
   have HO:Hid (t1.ownsRow w.heap.size 89 11 (Vs t0.heap.size 1 1) 1 (BZ [MC x'])):=Au o1 (by have:=X5.out.F.size;have:=hbd.size;omega)
   obtain⟨nb,hnb⟩:=Ae t0.heap.size
   rw[hnb]at HO hbz⊢
   have RES:Hid (Fw p w t1/\Bj t1 p ao n cap/\A9 t1 g (8*6) (vF V2)/\w.heap.size<=g/\w.heap.size<=br/\p<br):=⟨X1.F,X1.K,HG.out.below hB1 HG.out.lt,by have:=BO.out;omega,by have:=BO.out;omega,by have:=BO.out;have:=X1.pw;omega⟩
   have TT:Hid (Tn (some br) y5 t1):=Tn.of hB1
   clear hbd ht1 b1 o1 hB1 X1 hnb c0 c1 c2 c3 c4 c5 v1 v2 v3 X5 I5 N5
   refine AO 6 rfl (fun KK hK=>?_)
   go_simp
   refine hK.out _ _ (TT.out.set3 _ _ _) (fun _=>?_)
   clear hK KK
   refine wpAnyH_done (by kernel_rfl) ?_ _
   go_wp2_with fail
   refine bodyPost_ret (v:=.tuple #[Vs nb 1 1,.agg #[Vs g 8 vc,Vi zz,Vi cc]]) (by simp[results,Tryz.results101,go_sem, *]) rfl ⟨nb,1,[MC x'],g,vc,V2,zz,cc,rfl,XT x',by simp,?_,Or.inr RES.out.2.2.2.1,?_,OK2.out,?_,?_⟩
   ·exact Dj HO.out (by intro e;have:nb=br:=Option.some.inj e;omega) _ _ _
   ·exact DY RES.out.2.2.1 hgbr _ _ _
   ·exact Ef RES.out.1 RES.out.2.2.2.2.1 _ _ _
   ·exact EC RES.out.2.1 RES.out.2.2.2.2.2 _ _ _
end Go.Proofs.YtfpeecaaleijcaaGreatDoor
