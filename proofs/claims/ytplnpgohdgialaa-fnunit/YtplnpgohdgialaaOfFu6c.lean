import Derived.Test.YtplnpgohdgialaaOfDrawFlat
import Derived.Test.YtplnpgohdgialaaOfTransMath
import Derived.Test.YtplnpgohdgialaaOfValBlock
import Derived.Test.YtplnpgohdgialaaOfFu5e
set_option maxHeartbeats 16000000
set_option maxRecDepth 20000
namespace Go.Proofs.Ytplnpgohdgialaa
open Go.RowKit
theorem Fw.arr{p:Nat}{w w':World}{b n:Nat}{f:Nat->Value}(h:Fw p w w')(ha:Arr w b n f)(hn:b≠p):Arr w' b n f:=
 ⟨Nat.lt_of_lt_of_le ha.lt h.size,fun i=>(h.frozen ha.lt hn).trans (ha.free i),fun _ hi=>(h.cell ha.lt hn).trans (ha.cell hi)⟩
theorem Fw.alloc{p:Nat}{a b:World}(h:Fw p a b)(o:Obj):Fw p a (b.alloc o):=h.trans (.of_below ((Below.refl _ _).alloc (Nat.le_refl _) _))
theorem Vb.setLo{w:World}{b:Nat}{x:VV}(h:Vb w b x)(m:Int):Vb (w.setCell ⟨b,4,none⟩ (.int .i64 m)) b {x with lo:=m}:=(Arr.set1 h 4 (by omega) _).congr (vC_cases rfl rfl rfl rfl rfl rfl)
theorem Vb.setHi{w:World}{b:Nat}{x:VV}(h:Vb w b x)(m:Int):Vb (w.setCell ⟨b,5,none⟩ (.int .i64 m)) b {x with hi:=m}:=(Arr.set1 h 5 (by omega) _).congr (vC_cases rfl rfl rfl rfl rfl rfl)
def NumV(x:VV):Prop:=x.k=0/\x.h=0/\x.lo=0/\x.hi=0/\ -1<=x.m/\x.m<=1099511627776
def PtrV(x:VV)(n:Int):Prop:=x.k=1/\x.s=false/\x.m=0/\0<=x.h/\x.h<n/\ -1099511627776<=x.lo/\x.lo<=x.hi/\x.hi<=1099511627776
theorem l4DrawNum_any(p:Nat)(ao:Option Addr)(n cap:Nat)(w:World)(hc:Cur w p ao n cap):
 Calls Try.prog 29 #[.pointer (some ⟨p,0,none⟩)] w fun e w'=>∃x:VV,e=.returned x.v/\NumV x/\Fw p w w'/\Cur w' p ao n cap:=by
 have lp:=hc.lt;have HC:Hid (Cur w p ao n cap):=hc;clear hc;go_enter Try.func29,Try.ntmps29;go_wp2_with fail;refine(l1Once_any p ao n cap 2 _ (by omega) (HC.out.below ((Below.refl _ _).alloc (Nat.le_refl _) _))).mono ?_;rintro e w1⟨s,rfl,f1,k1⟩;have R1:Hid (Vb w1 w.heap.size ⟨0,false,0,0,0,0⟩):=f1.arr (Vb.new w ⟨0,false,0,0,0,0⟩) (by omega);have F1:Hid (Fw p w w1):=((Fw.refl _ _).alloc _).trans f1;have K1:Hid (Cur w1 p ao n cap):=k1;clear f1 k1 HC;go_wp2_with fail;refine(l1Below_any p ao n cap 6 _ (by omega) (K1.out.below ((Below.refl _ _).alloc (Nat.le_refl _) _))).mono ?_;rintro e w2⟨k,rfl,k0,k6,f2,k2⟩;have h23:w.heap.size<w1.heap.size:=R1.out.lt;have lp1:p<w1.heap.size:=by omega
 have V2:Hid (Vb w2 w1.heap.size ⟨0,s,-1,0,0,0⟩):=f2.arr (Vb.new w1 ⟨0,s,-1,0,0,0⟩) (by omega);have R2:Hid (Vb w2 w.heap.size ⟨0,false,0,0,0,0⟩):=f2.arr (R1.out.below ((Below.refl w1.heap.size w1).alloc (Nat.le_refl _) _) R1.out.lt) (by omega);have F2:Hid (Fw p w w2):=(F1.out.alloc _).trans f2;have K2:Hid (Cur w2 p ao n cap):=k2;clear f2 k2 K1 F1 R1;by_cases c3:k<3
 ·go_wp2_with fail
  refine(l1Below_any p ao n cap 20 _ (by omega) K2.out).mono ?_;rintro e w3⟨m,rfl,m0,m1,f3,k3⟩;have V3:Hid (Vb w3 w1.heap.size ⟨0,s,-1,0,0,0⟩):=f3.arr V2.out (by omega);have R3:Hid (Vb w3 w.heap.size ⟨0,false,0,0,0,0⟩):=f3.arr R2.out (by omega);have F3:Hid (Fw p w w3):=F2.out.trans f3;have K3:Hid (Cur w3 p ao n cap):=k3;clear f3 k3 V2 R2 F2 K2;obtain⟨v0,v1,v2,v3,v4,v5⟩:=V3.out.cells;have vf:=V3.out.free;have vl:=V3.out.lt;obtain⟨r0,r1,r2,r3,r4,r5⟩:=R3.out.cells;have rf:=R3.out.free;have rl:=R3.out.lt;go_wp2;refine bodyPost_ret (v:=VV.v ⟨0,s,m,0,0,0⟩) (by simp[results,Try.results29,go_sem,VV.v, *]) rfl ⟨⟨0,s,m,0,0,0⟩,rfl,⟨rfl,rfl,rfl,rfl,by simp;omega,by simp;omega⟩,((((((F3.out.put (Nat.le_of_lt h23) _ _).put (Nat.le_refl _) _ _).put (Nat.le_refl _) _ _).put (Nat.le_refl _) _ _).put (Nat.le_refl _) _ _).put (Nat.le_refl _) _ _).put (Nat.le_refl _) _ _,((((((K3.out.put lp1 _ _).put lp _ _).put lp _ _).put lp _ _).put lp _ _).put lp _ _).put lp _ _⟩
 ·by_cases c4:k=3
  ·subst c4
   obtain⟨v0,v1,v2,v3,v4,v5⟩:=V2.out.cells;have vf:=V2.out.free;have vl:=V2.out.lt;obtain⟨r0,r1,r2,r3,r4,r5⟩:=R2.out.cells;have rf:=R2.out.free;have rl:=R2.out.lt;go_wp2;refine bodyPost_ret (v:=VV.v ⟨0,s,255,0,0,0⟩) (by simp[results,Try.results29,go_sem,VV.v, *]) rfl ⟨⟨0,s,255,0,0,0⟩,rfl,⟨rfl,rfl,rfl,rfl,by simp,by simp⟩,((((((F2.out.put (Nat.le_of_lt h23) _ _).put (Nat.le_refl _) _ _).put (Nat.le_refl _) _ _).put (Nat.le_refl _) _ _).put (Nat.le_refl _) _ _).put (Nat.le_refl _) _ _).put (Nat.le_refl _) _ _,((((((K2.out.put lp1 _ _).put lp _ _).put lp _ _).put lp _ _).put lp _ _).put lp _ _).put lp _ _⟩
  ·by_cases c5:k=4
   ·subst c5
    go_wp2_with fail;refine(l1Once_any p ao n cap 4 _ (by omega) K2.out).mono ?_;rintro e w3⟨q,rfl,f3,k3⟩;have V3:Hid (Vb w3 w1.heap.size ⟨0,s,-1,0,0,0⟩):=f3.arr V2.out (by omega);have R3:Hid (Vb w3 w.heap.size ⟨0,false,0,0,0,0⟩):=f3.arr R2.out (by omega);have F3:Hid (Fw p w w3):=F2.out.trans f3;have K3:Hid (Cur w3 p ao n cap):=k3;clear f3 k3 V2 R2 F2 K2;cases q with
    |false=>
     obtain⟨v0,v1,v2,v3,v4,v5⟩:=V3.out.cells;have vf:=V3.out.free;have vl:=V3.out.lt;obtain⟨r0,r1,r2,r3,r4,r5⟩:=R3.out.cells;have rf:=R3.out.free;have rl:=R3.out.lt;go_wp2;refine bodyPost_ret (v:=VV.v ⟨0,s,-1,0,0,0⟩) (by simp[results,Try.results29,go_sem,VV.v, *]) rfl ⟨⟨0,s,-1,0,0,0⟩,rfl,⟨rfl,rfl,rfl,rfl,by simp,by simp⟩,((((((F3.out).put (Nat.le_refl _) _ _).put (Nat.le_refl _) _ _).put (Nat.le_refl _) _ _).put (Nat.le_refl _) _ _).put (Nat.le_refl _) _ _).put (Nat.le_refl _) _ _,((((((K3.out).put lp _ _).put lp _ _).put lp _ _).put lp _ _).put lp _ _).put lp _ _⟩
    |true=>
     go_wp2_with fail;refine(l1Below_any p ao n cap 3 _ (by omega) K3.out).mono ?_;rintro e w4⟨m,rfl,m0,m1,f4,k4⟩;have V4:Hid (Vb w4 w1.heap.size ⟨0,s,-1,0,0,0⟩):=f4.arr V3.out (by omega);have R4:Hid (Vb w4 w.heap.size ⟨0,false,0,0,0,0⟩):=f4.arr R3.out (by omega);have F4:Hid (Fw p w w4):=F3.out.trans f4;have K4:Hid (Cur w4 p ao n cap):=k4;clear f4 k4 V3 R3 F3 K3;obtain⟨v0,v1,v2,v3,v4,v5⟩:=V4.out.cells;have vf:=V4.out.free;have vl:=V4.out.lt;obtain⟨r0,r1,r2,r3,r4,r5⟩:=R4.out.cells;have rf:=R4.out.free;have rl:=R4.out.lt;go_wp2;refine bodyPost_ret (v:=VV.v ⟨0,s,1099511627776-m,0,0,0⟩) (by simp[results,Try.results29,go_sem,VV.v, *]) rfl ⟨⟨0,s,1099511627776-m,0,0,0⟩,rfl,⟨rfl,rfl,rfl,rfl,by simp;omega,by simp;omega⟩,((((((F4.out.put (Nat.le_of_lt h23) _ _).put (Nat.le_refl _) _ _).put (Nat.le_refl _) _ _).put (Nat.le_refl _) _ _).put (Nat.le_refl _) _ _).put (Nat.le_refl _) _ _).put (Nat.le_refl _) _ _,((((((K4.out.put lp1 _ _).put lp _ _).put lp _ _).put lp _ _).put lp _ _).put lp _ _).put lp _ _⟩
   ·skip
    obtain⟨v0,v1,v2,v3,v4,v5⟩:=V2.out.cells;have vf:=V2.out.free;have vl:=V2.out.lt;obtain⟨r0,r1,r2,r3,r4,r5⟩:=R2.out.cells;have rf:=R2.out.free;have rl:=R2.out.lt;go_wp2;refine bodyPost_ret (v:=VV.v ⟨0,s,-1,0,0,0⟩) (by simp[results,Try.results29,go_sem,VV.v, *]) rfl ⟨⟨0,s,-1,0,0,0⟩,rfl,⟨rfl,rfl,rfl,rfl,by simp,by simp⟩,((((((F2.out).put (Nat.le_refl _) _ _).put (Nat.le_refl _) _ _).put (Nat.le_refl _) _ _).put (Nat.le_refl _) _ _).put (Nat.le_refl _) _ _).put (Nat.le_refl _) _ _,((((((K2.out).put lp _ _).put lp _ _).put lp _ _).put lp _ _).put lp _ _).put lp _ _⟩
theorem l4DrawPtr_any(p:Nat)(ao:Option Addr)(n cap:Nat)(hs:Int)(w:World)(hm:1<=hs)(hc:Cur w p ao n cap):
 Calls Try.prog 30 #[.pointer (some ⟨p,0,none⟩),.int .i64 hs] w fun e w'=>∃x:VV,e=.returned x.v/\PtrV x hs/\Fw p w w'/\Cur w' p ao n cap:=by
 have lp:=hc.lt
 have HC:Hid (Cur w p ao n cap):=hc
 clear hc
 go_enter Try.func30,Try.ntmps30
 go_wp2_with fail
 refine(l1Below_any p ao n cap hs _ hm (HC.out.below ((Below.refl _ _).alloc (Nat.le_refl _) _))).mono ?_
 rintro e w1⟨h,rfl,h0,h1,f,c⟩
 have R1:Hid (Vb w1 w.heap.size ⟨0,false,0,0,0,0⟩):=f.arr (Vb.new w ⟨0,false,0,0,0,0⟩) (by omega)
 have F1:Hid (Fw p w w1):=((Fw.refl _ _).alloc _).trans f
 have K1:Hid (Cur w1 p ao n cap):=c
 clear f c HC
 have h23:w.heap.size<w1.heap.size:=R1.out.lt
 have lp1:p<w1.heap.size:=by omega
 go_wp2_with fail
 refine(l1Below_any p ao n cap 5 _ (by omega) (K1.out.below ((Below.refl _ _).alloc (Nat.le_refl _) _))).mono ?_
 rintro e w2⟨lo,rfl,l0,l1,f,c⟩
 have V2:Hid (Vb w2 w1.heap.size ⟨1,false,0,h,0,0⟩):=f.arr (Vb.new w1 ⟨1,false,0,h,0,0⟩) (by omega)
 have R2:Hid (Vb w2 w.heap.size ⟨0,false,0,0,0,0⟩):=f.arr (R1.out.below ((Below.refl w1.heap.size w1).alloc (Nat.le_refl _) _) R1.out.lt) (by omega)
 have F2:Hid (Fw p w w2):=(F1.out.alloc _).trans f
 have K2:Hid (Cur w2 p ao n cap):=c
 clear f c K1 F1 R1
 obtain⟨v0,v1,v2,v3,v4,v5⟩:=V2.out.cells
 have vf:=V2.out.free
 have vl:=V2.out.lt
 obtain⟨r0,r1,r2,r3,r4,r5⟩:=R2.out.cells
 have rf:=R2.out.free
 have rl:=R2.out.lt
 go_upto_region 3 with fail
 obtain⟨w3,hw3,V3,R3,F3,K3⟩:∃v,w2.setCell ⟨w1.heap.size,4,none⟩ (.int .i64 lo)=v/\Hid (Vb v w1.heap.size ⟨1,false,0,h,lo,0⟩)/\Hid (Vb v w.heap.size ⟨0,false,0,0,0,0⟩)/\Hid (Fw p w v)/\Hid (Cur v p ao n cap):=⟨_,rfl,V2.out.setLo lo,Arr.other R2.out (by simp;omega) _,F2.out.put (Nat.le_of_lt h23) _ _,K2.out.put lp1 _ _⟩
 rw[hw3]
 clear hw3 V2 R2 F2 K2 v0 v1 v2 v3 v4 v5 vf vl r0 r1 r2 r3 r4 r5 rf rl
 have v4:w3.cell? ⟨w1.heap.size,4,none⟩=some (.int .i64 lo):=V3.out.cells.2.2.2.2.1
 refine wp_region_held_drew (S:=fun w'=>w'.cell? ⟨w1.heap.size,4,none⟩=some (.int .i64 lo)) (by kernel_rfl) ?_ (fun _=>?_)
 ·exact((Below.refl w3.heap.size w3).drew.cell (p:=⟨w1.heap.size,4,none⟩) V3.out.lt).trans v4
 obtain⟨w4,hw4,f,c⟩:∃v,w3.drew=v/\Fw p w3 v/\Cur v p ao n cap:=⟨_,rfl,.of_below (Below.refl _ _).drew,K3.out.below (Below.refl _ _).drew⟩
 rw[hw4]at *
 have V4:Hid (Vb w4 w1.heap.size ⟨1,false,0,h,lo,0⟩):=f.arr V3.out (by omega)
 have R4:Hid (Vb w4 w.heap.size ⟨0,false,0,0,0,0⟩):=f.arr R3.out (by omega)
 have F4:Hid (Fw p w w4):=F3.out.trans f
 have K4:Hid (Cur w4 p ao n cap):=c
 clear f c V3 R3 F3 K3
 clear hw4
 have hS4:=V4.out.cells.2.2.2.2.1
 refine wpAnyH_tk 0 ?k1v rfl ?k1y ?k1r
 case k1y=>(intro w hSw;(try dsimp only at hSw);go_simp;try with_reducible rfl)
 try go_frame
 refine wpAnyH_tk 1 ?k2v rfl ?k2y ?k2r
 case k2y=>(intro w hSw;(try dsimp only at hSw);go_simp;try with_reducible rfl)
 try go_frame
 refine wpAnyH_tk 2 ?k3v rfl ?k3y ?k3r
 case k3y=>(intro w hSw;(try dsimp only at hSw);go_simp;try with_reducible rfl)
 try go_frame
 refine wpAnyH_tk 4 ?k4v rfl ?k4y ?k4r
 case k4y=>(intro w hSw;(try dsimp only at hSw);go_simp;try with_reducible rfl)
 try go_frame
 refine wpAnyH_ready (rs:=[3]) (by kernel_rfl) (by simp) ?_
 refine AllReadyH.cons rfl (fun KK hK=>?_) AllReadyH.nil
 go_simp
 refine(l1Below_any p ao n cap 4 _ (by omega) K4.out).mono ?_
 rintro e w5⟨q,rfl,q0,q1,f,c⟩
 have V5:Hid (Vb w5 w1.heap.size ⟨1,false,0,h,lo,0⟩):=f.arr V4.out (by omega)
 have R5:Hid (Vb w5 w.heap.size ⟨0,false,0,0,0,0⟩):=f.arr R4.out (by omega)
 have F5:Hid (Fw p w w5):=F4.out.trans f
 have K5:Hid (Cur w5 p ao n cap):=c
 clear f c V4 R4 F4 K4
 go_wp2_with fail
 refine hK.out _ _ V5.out.cells.2.2.2.2.1 (fun hS5=>?_)
 clear hK KK
 try go_frame
 refine wpAnyH_ready (rs:=[5]) (by kernel_rfl) (by simp) ?_
 refine AllReadyH.cons rfl (fun KK hK=>?_) AllReadyH.nil
 go_simp
 refine(l1Below_any p ao n cap 2 _ (by omega) K5.out).mono ?_
 rintro e w6⟨r,rfl,r0,r1,f,c⟩
 have V6:Hid (Vb w6 w1.heap.size ⟨1,false,0,h,lo,0⟩):=f.arr V5.out (by omega)
 have R6:Hid (Vb w6 w.heap.size ⟨0,false,0,0,0,0⟩):=f.arr R5.out (by omega)
 have F6:Hid (Fw p w w6):=F5.out.trans f
 have K6:Hid (Cur w6 p ao n cap):=c
 clear f c V5 R5 F5 K5
 go_wp2_with fail
 refine hK.out _ _ V6.out.cells.2.2.2.2.1 (fun hS6=>?_)
 clear hK KK
 try go_frame
 refine wpAnyH_tk 6 ?k5v rfl ?k5y ?k5r
 case k5y=>(intro w hSw;(try dsimp only at hSw);go_simp;try with_reducible rfl)
 try go_frame
 refine wpAnyH_tk 7 ?k6v rfl ?k6y ?k6r
 case k6y=>(intro w hSw;(try dsimp only at hSw);go_simp;try with_reducible rfl)
 try go_frame
 refine wpAnyH_tk 8 ?k7v rfl ?k7y ?k7r
 case k7y=>(intro w hSw;(try dsimp only at hSw);go_simp;try with_reducible rfl)
 try go_frame
 obtain⟨v0,v1,v2,v3,v4,v5⟩:=V6.out.cells
 have vf:=V6.out.free
 have vl:=V6.out.lt
 obtain⟨r0,r1,r2,r3,r4,r5⟩:=R6.out.cells
 have rf:=R6.out.free
 have rl:=R6.out.lt
 refine wpAnyH_ready (rs:=[9]) (by kernel_rfl) (by simp) ?_
 refine AllReadyH.cons rfl (fun KK hK=>?_) AllReadyH.nil
 go_simp
 have hr:r=0∨r=1:=by omega
 obtain⟨hi,hhi,e0,e1⟩:∃hi:Int,IntKind.i64.wrap (lo+IntKind.i64.wrap (q*r))=hi/\lo<=hi/\hi<=100:=by
  refine⟨_,rfl,?_,?_⟩<;>(rcases hr with rfl|rfl<;>simp only[Int.mul_zero,Int.mul_one,IntKind.wrap_i64]<;>omega)
 rw[hhi]
 clear hhi hr
 obtain⟨w7,hw7,V7,R7,F7,K7⟩:∃v,w6.setCell ⟨w1.heap.size,5,none⟩ (.int .i64 hi)=v/\Hid (Vb v w1.heap.size ⟨1,false,0,h,lo,hi⟩)/\Hid (Vb v w.heap.size ⟨0,false,0,0,0,0⟩)/\Hid (Fw p w v)/\Hid (Cur v p ao n cap):=⟨_,rfl,V6.out.setHi hi,Arr.other R6.out (by simp;omega) _,F6.out.put (Nat.le_of_lt h23) _ _,K6.out.put lp1 _ _⟩
 rw[hw7]
 refine hK.out _ _ V7.out.cells.2.2.2.2.1 (fun _=>?_)
 clear hK KK
 refine wpAnyH_done (by kernel_rfl) ?_ _
 clear hw7 V6 R6 F6 K6 hS4 hS5 hS6 v4 v0 v1 v2 v3 v5 vf vl r0 r1 r2 r3 r4 r5 rf rl
 go_wp2_with fail
 refine(l1Below_any p ao n cap 30 _ (by omega) K7.out).mono ?_
 rintro e w8⟨k,rfl,k0,k1,f,c⟩
 have V8:Hid (Vb w8 w1.heap.size ⟨1,false,0,h,lo,hi⟩):=f.arr V7.out (by omega)
 have R8:Hid (Vb w8 w.heap.size ⟨0,false,0,0,0,0⟩):=f.arr R7.out (by omega)
 have F8:Hid (Fw p w w8):=F7.out.trans f
 have K8:Hid (Cur w8 p ao n cap):=c
 clear f c V7 R7 F7 K7
 by_cases c0:k=0
 ·subst c0
  obtain⟨v0,v1,v2,v3,v4,v5⟩:=V8.out.cells
  have vf:=V8.out.free
  have vl:=V8.out.lt
  obtain⟨r0,r1,r2,r3,r4,r5⟩:=R8.out.cells
  have rf:=R8.out.free
  have rl:=R8.out.lt
  go_wp2
  refine bodyPost_ret (v:=VV.v ⟨1,false,0,h,-1099511627776,hi⟩) (by simp[results,Try.results30,go_sem,VV.v, *]) rfl ⟨⟨1,false,0,h,-1099511627776,hi⟩,rfl,⟨rfl,rfl,rfl,h0,h1,by simp,by simp;omega,by simp;omega⟩,((((((F8.out.put (Nat.le_of_lt h23) _ _).put (Nat.le_refl _) _ _).put (Nat.le_refl _) _ _).put (Nat.le_refl _) _ _).put (Nat.le_refl _) _ _).put (Nat.le_refl _) _ _).put (Nat.le_refl _) _ _,((((((K8.out.put lp1 _ _).put lp _ _).put lp _ _).put lp _ _).put lp _ _).put lp _ _).put lp _ _⟩
 ·by_cases c1:k=1
  ·subst c1
   go_wp2_with fail
   refine(l1Below_any p ao n cap 30 _ (by omega) K8.out).mono ?_
   rintro e w9⟨m,rfl,m0,m1,f,c⟩
   have V9:Hid (Vb w9 w1.heap.size ⟨1,false,0,h,lo,hi⟩):=f.arr V8.out (by omega)
   have R9:Hid (Vb w9 w.heap.size ⟨0,false,0,0,0,0⟩):=f.arr R8.out (by omega)
   have F9:Hid (Fw p w w9):=F8.out.trans f
   have K9:Hid (Cur w9 p ao n cap):=c
   clear f c V8 R8 F8 K8
   obtain⟨v0,v1,v2,v3,v4,v5⟩:=V9.out.cells
   have vf:=V9.out.free
   have vl:=V9.out.lt
   obtain⟨r0,r1,r2,r3,r4,r5⟩:=R9.out.cells
   have rf:=R9.out.free
   have rl:=R9.out.lt
   go_wp2
   refine bodyPost_ret (v:=VV.v ⟨1,false,0,h,lo,1099511627776-m⟩) (by simp[results,Try.results30,go_sem,VV.v, *]) rfl ⟨⟨1,false,0,h,lo,1099511627776-m⟩,rfl,⟨rfl,rfl,rfl,h0,h1,by simp;omega,by simp;omega,by simp;omega⟩,((((((F9.out.put (Nat.le_of_lt h23) _ _).put (Nat.le_refl _) _ _).put (Nat.le_refl _) _ _).put (Nat.le_refl _) _ _).put (Nat.le_refl _) _ _).put (Nat.le_refl _) _ _).put (Nat.le_refl _) _ _,((((((K9.out.put lp1 _ _).put lp _ _).put lp _ _).put lp _ _).put lp _ _).put lp _ _).put lp _ _⟩
  ·skip
   obtain⟨v0,v1,v2,v3,v4,v5⟩:=V8.out.cells
   have vf:=V8.out.free
   have vl:=V8.out.lt
   obtain⟨r0,r1,r2,r3,r4,r5⟩:=R8.out.cells
   have rf:=R8.out.free
   have rl:=R8.out.lt
   go_wp2
   refine bodyPost_ret (v:=VV.v ⟨1,false,0,h,lo,hi⟩) (by simp[results,Try.results30,go_sem,VV.v, *]) rfl ⟨⟨1,false,0,h,lo,hi⟩,rfl,⟨rfl,rfl,rfl,h0,h1,by simp;omega,e0,by simp;omega⟩,((((((F8.out).put (Nat.le_refl _) _ _).put (Nat.le_refl _) _ _).put (Nat.le_refl _) _ _).put (Nat.le_refl _) _ _).put (Nat.le_refl _) _ _).put (Nat.le_refl _) _ _,((((((K8.out).put lp _ _).put lp _ _).put lp _ _).put lp _ _).put lp _ _).put lp _ _⟩
end Go.Proofs.Ytplnpgohdgialaa
namespace Go.Proofs.Ytplnpgohdgialaa
open Go.RowKit Go.Deep
theorem row_grw{u u':World}{row:Option Nat}{B e s n:Nat}{v:Value}{xs:List Value}(h:u.ownsRow B e s v n xs)(hg:u.grownBy u' row)(hn:∀q,v.ownBlock=some q->row≠some q):u'.ownsRow B e s v n xs:=by
 refine⟨h.1,?_⟩;rcases h.2 with h|⟨g,cap,cur,rfl,h1,h2,h3⟩
 ·exact .inl h
 ·exact .inr ⟨g,cap,cur,rfl,h1,grown_obj h2 hg (hn g rfl),h3⟩
theorem own_ne{u:World}{B e s n B' e' s' n':Nat}{v v':Value}{xs xs':List Value}(h:u.ownsRow B e s v n xs)(h':u.ownsRow B' e' s' v' n' xs')(he:e≠e'):∀q,v.ownBlock=some q->v'.ownBlock≠some q:=fun q hq=>by
 rcases h.2 with⟨h,_⟩|⟨g,cap,cur,h,_,h2,_⟩
 ·rw[h]at hq;cases hq
 ·rw[h]at hq
  have:g=q:=Option.some.inj hq;subst this;exact grown_ne h2 h' he
theorem own_lt{u:World}{B e s n q:Nat}{v:Value}{xs:List Value}(h:u.ownsRow B e s v n xs)(hq:v.ownBlock=some q):q<u.heap.size:=by
 rcases h.2 with⟨h',_⟩|⟨g,cap,cur,h',_,h2,_⟩
 ·rw[h']at hq;cases hq
 ·rw[h']at hq
  have:g=q:=Option.some.inj hq;have:=hq_lt h2;omega
theorem row_down{u:World}{B B' e s n:Nat}{v:Value}{xs:List Value}(h:u.ownsRow B e s v n xs)(hb:B'<=B):u.ownsRow B' e s v n xs:=by
 refine⟨h.1,?_⟩;rcases h.2 with h|⟨g,cap,cur,rfl,h1,h2⟩
 ·exact .inl h
 ·exact .inr ⟨g,cap,cur,rfl,by omega,h2⟩
def hcl(x:HS):List Value:=[.int .i64 x.size,.bool x.s,.bool x.w]
def hs0:HS:=⟨0,false,false⟩
theorem hcl_get:∀(hs:List HS)(p:Nat),p<hs.length*3->(hs.flatMap hcl)[p]?=some (hsF (fun i=>hs.getD i hs0) p)
 |[],p,h=>by simp at h
 |y::l,p,h=>by
  rw[List.flatMap_cons];by_cases hp:p<3
  ·rw[List.getElem?_append_left (by show p<3;exact hp)]
   unfold hsF;rw[show p/3=0 by omega,show p%3=p by omega];match p,hp with
   |0,_=>rfl
   |1,_=>rfl
   |2,_=>rfl
  ·rw[List.getElem?_append_right (by show 3<=p;omega)]
   show(l.flatMap hcl)[p-3]?=_;rw[hcl_get l (p-3) (by simp at h;omega)];unfold hsF;rw[show(p-3)/3=p/3-1 by omega,show(p-3)%3=p%3 by omega];obtain⟨k,hk⟩:∃k,p/3=k+1:=⟨p/3-1,by omega⟩
   rw[hk];rfl
theorem vcl_get:∀(vs:List VV)(p:Nat),p<vs.length*6->(vs.flatMap vcl)[p]?=some (vF (fun i=>vs.getD i zV) p)
 |[],p,h=>by simp at h
 |y::l,p,h=>by
  rw[List.flatMap_cons];by_cases hp:p<6
  ·rw[List.getElem?_append_left (by show p<6;exact hp)]
   unfold vF;rw[show p/6=0 by omega,show p%6=p by omega];match p,hp with
   |0,_=>rfl
   |1,_=>rfl
   |2,_=>rfl
   |3,_=>rfl
   |4,_=>rfl
   |5,_=>rfl
  ·rw[List.getElem?_append_right (by show 6<=p;omega)]
   show(l.flatMap vcl)[p-6]?=_;rw[vcl_get l (p-6) (by simp at h;omega)];unfold vF;rw[show(p-6)/6=p/6-1 by omega,show(p-6)%6=p%6 by omega];obtain⟨k,hk⟩:∃k,p/6=k+1:=⟨p/6-1,by omega⟩
   rw[hk];rfl
theorem info_cHS:(Try.prog.info? 78).map (fun i=>(i.zero,i.size,i.bytes))=some (some (.agg #[.int .i64 0,.bool false,.bool false]),3,16):=by kernel_rfl
structure DS(w:World)(p:Nat)(ao:Option Addr)(n cap r q:Nat)(vH:Value)(hs:List HS)(vR:Value)(vs:List VV)(u:World):Prop where
 F:Fw p w u
 K:Cur u p ao n cap
 Z:u.heap[r]?=some (.cells #[.slice none 0 0,.slice none 0 0] 47)
 X:u.heap[q]?=some (.cells #[vH,vR] 47)
 H:u.ownsRow w.heap.size 78 3 vH hs.length (hs.flatMap hcl)
 R:u.ownsRow w.heap.size 80 6 vR vs.length (vs.flatMap vcl)
 pw:p<w.heap.size
 wr:w.heap.size<=r
 rq:r<q
section
variable{w:World}{p:Nat}{ao:Option Addr}{n cap r q:Nat}{vH:Value}{hs:List HS}{vR:Value}{vs:List VV}{u u':World}
theorem DS.fw(h:DS w p ao n cap r q vH hs vR vs u)(f:Fw p u u')(c:Cur u' p ao n cap):DS w p ao n cap r q vH hs vR vs u':=
 ⟨h.F.trans f,c,hq_fw h.Z f (by have:=h.pw;have:=h.wr;omega),hq_fw h.X f (by have:=h.pw;have:=h.wr;have:=h.rq;omega),row_fw h.H f h.pw,row_fw h.R f h.pw,h.pw,h.wr,h.rq⟩
theorem DS.below(h:DS w p ao n cap r q vH hs vR vs u)(f:Below u.heap.size u u'):DS w p ao n cap r q vH hs vR vs u':=h.fw (.of_below f) (h.K.below f)
theorem DS.put(h:DS w p ao n cap r q vH hs vR vs u){b:Nat}(hb:q<b)(n1:vH.ownBlock≠some b)(n2:vR.ownBlock≠some b)(j:Nat)(v:Value):DS w p ao n cap r q vH hs vR vs (u.setCell ⟨b,j,none⟩ v):=by
 have o1:=h.pw;have o2:=h.wr;have o3:=h.rq;exact⟨h.F.put (by omega) _ _,h.K.put (by omega) _ _,hq_other h.Z (by omega) _ _,hq_other h.X (by omega) _ _,row_put h.H n1 _ _,row_put h.R n2 _ _,o1,o2,o3⟩
theorem DS.cells(h:DS w p ao n cap r q vH hs vR vs u):u.cell? ⟨q,0,none⟩=some vH/\u.cell? ⟨q,1,none⟩=some vR/\(∀i,u.frozen? ⟨q,i,none⟩=false)/\q<u.heap.size:=⟨(hq_cell h.X 0).trans rfl,(hq_cell h.X 1).trans rfl,hq_free h.X,hq_lt h.X⟩
theorem DS.growH(h:DS w p ao n cap r q vH hs vR vs u){v':Value}{x:HS}(hg:u.grownBy u' vH.ownBlock)(ho:u'.ownsRow w.heap.size 78 3 v' (hs.length+1) (hs.flatMap hcl++hcl x)):DS w p ao n cap r q v' (hs++[x]) vR vs (u'.setCell ⟨q,0,none⟩ v'):=by
 have o1:=h.pw;have o2:=h.wr;have o3:=h.rq;have X':=grown_obj h.X hg (grown_ne h.X h.H (by decide));have Z':=grown_obj h.Z hg (grown_ne h.Z h.H (by decide));have R':=row_grw h.R hg (fun b hb=>own_ne h.R h.H (by decide) b hb);have ho':u'.ownsRow w.heap.size 78 3 v' (hs++[x]).length ((hs++[x]).flatMap hcl):=by simpa using ho
 exact⟨(h.F.grown hg (fun k hk=>own_ge h.H hk)).put (by omega) _ _,(h.K.grown hg (fun k hk=>by have:=own_ge h.H hk;omega)).put (by omega) _ _,hq_other Z' (by omega) _ _,hq_set X' 0 v',row_put ho' (grown_ne X' ho' (by decide)) _ _,row_put R' (grown_ne X' R' (by decide)) _ _,o1,o2,o3⟩
theorem DS.growR(h:DS w p ao n cap r q vH hs vR vs u){v':Value}{x:VV}(hg:u.grownBy u' vR.ownBlock)(ho:u'.ownsRow w.heap.size 80 6 v' (vs.length+1) (vs.flatMap vcl++vcl x)):DS w p ao n cap r q vH hs v' (vs++[x]) (u'.setCell ⟨q,1,none⟩ v'):=by
 have o1:=h.pw;have o2:=h.wr;have o3:=h.rq;have X':=grown_obj h.X hg (grown_ne h.X h.R (by decide));have Z':=grown_obj h.Z hg (grown_ne h.Z h.R (by decide));have H':=row_grw h.H hg (fun b hb=>own_ne h.H h.R (by decide) b hb);have ho':u'.ownsRow w.heap.size 80 6 v' (vs++[x]).length ((vs++[x]).flatMap vcl):=by simpa using ho
 exact⟨(h.F.grown hg (fun k hk=>own_ge h.R hk)).put (by omega) _ _,(h.K.grown hg (fun k hk=>by have:=own_ge h.R hk;omega)).put (by omega) _ _,hq_other Z' (by omega) _ _,hq_set X' 1 v',row_put H' (grown_ne X' H' (by decide)) _ _,row_put ho' (grown_ne X' ho' (by decide)) _ _,o1,o2,o3⟩
theorem DS.put6(h:DS w p ao n cap r q vH hs vR vs u){b:Nat}(hb:q<b)(n1:vH.ownBlock≠some b)(n2:vR.ownBlock≠some b)(a0 a1 a2 a3 a4 a5:Value):DS w p ao n cap r q vH hs vR vs (set6 u b a0 a1 a2 a3 a4 a5):=
 (((((h.put hb n1 n2 _ _).put hb n1 n2 _ _).put hb n1 n2 _ _).put hb n1 n2 _ _).put hb n1 n2 _ _).put hb n1 n2 _ _
end
def VB(u:World)(b:Nat)(x:VV):Prop:=u.heap[b]?=some (.cells #[.int .i64 x.k,.bool x.s,.int .i64 x.m,.int .i64 x.h,.int .i64 x.lo,.int .i64 x.hi] 80)
theorem VB.cells{u:World}{b:Nat}{x:VV}(h:VB u b x):u.cell? ⟨b,0,none⟩=some (.int .i64 x.k)/\u.cell? ⟨b,1,none⟩=some (.bool x.s)/\u.cell? ⟨b,2,none⟩=some (.int .i64 x.m)/\u.cell? ⟨b,3,none⟩=some (.int .i64 x.h)/\u.cell? ⟨b,4,none⟩=some (.int .i64 x.lo)/\u.cell? ⟨b,5,none⟩=some (.int .i64 x.hi)/\(∀i,u.frozen? ⟨b,i,none⟩=false)/\b<u.heap.size:=
 ⟨(hq_cell h 0).trans rfl,(hq_cell h 1).trans rfl,(hq_cell h 2).trans rfl,(hq_cell h 3).trans rfl,(hq_cell h 4).trans rfl,(hq_cell h 5).trans rfl,hq_free h,hq_lt h⟩
theorem ds_new(w:World)(p:Nat)(ao:Option Addr)(n cap:Nat)(hc:Cur w p ao n cap):DS w p ao n cap w.heap.size (w.heap.size+1) (.slice none 0 0) [] (.slice none 0 0) [] ((w.alloc (.cells #[.slice none 0 0,.slice none 0 0] 47)).alloc (.cells #[.slice none 0 0,.slice none 0 0] 47)):=by
 have b:Below w.heap.size w ((w.alloc (.cells #[.slice none 0 0,.slice none 0 0] 47)).alloc (.cells #[.slice none 0 0,.slice none 0 0] 47)):=((Below.refl _ _).alloc (Nat.le_refl _) _).alloc (by simp) _;have e1:(w.alloc (.cells #[.slice none 0 0,.slice none 0 0] 47)).heap.size=w.heap.size+1:=by simp
 refine⟨.of_below b,hc.below b,?_,?_,World.ownsRow_nil _ _ _ _,World.ownsRow_nil _ _ _ _,hc.lt,Nat.le_refl _,by omega⟩
 ·exact hq_below (hq_new w _) ((Below.refl _ _).alloc (Nat.le_refl _) _)
 ·rw[<-e1];exact hq_new _ _
def SigR(w:World)(p:Nat)(ao:Option Addr)(n cap:Nat)(e:Ending)(w':World):Prop:=
 ∃(bH cH nH:Nat)(S:Nat->HS)(bR cR:Nat)(V0:Nat->VV),e=.returned (.agg #[.slice (some ⟨bH,0,none⟩) nH cH,.slice (some ⟨bR,0,none⟩) 8 cR])/\1<=nH/\nH<=4/\SigCp w' bH nH S bR 8 V0/\sigOK nH S 8 V0=true/\w.heap.size<=bH/\w.heap.size<=bR/\Fw p w w'/\Cur w' p ao n cap
theorem gv_NumV{x:VV}{n:Int}(h:NumV x):GV x n:=Or.inl ⟨h.1,h.2.2.2.2.1,h.2.2.2.2.2,h.2.1,h.2.2.1,h.2.2.2.1⟩
theorem gv_PtrV{x:VV}{n:Int}(h:PtrV x n):GV x n:=Or.inr h
theorem l4DrawSig_any(p:Nat)(ao:Option Addr)(n cap:Nat)(w:World)(hc:Cur w p ao n cap):
 Calls Try.prog 14 #[.pointer (some ⟨p,0,none⟩)] w (SigR w p ao n cap):=by
 have D0:Hid (DS w p ao n cap w.heap.size (w.heap.size+1) (.slice none 0 0) [] (.slice none 0 0) [] ((w.alloc (.cells #[.slice none 0 0,.slice none 0 0] 47)).alloc (.cells #[.slice none 0 0,.slice none 0 0] 47))):=ds_new w p ao n cap hc
 obtain⟨iV,gV,gV0,gV1,gV2⟩:=info_parts info_cV
 have HIV:Hid (_/\_/\_/\_):=⟨gV,gV0,gV1,gV2⟩
 obtain⟨iH,gH,gH0,gH1,gH2⟩:=info_parts info_cHS
 have HIH:Hid (_/\_/\_/\_):=⟨gH,gH0,gH1,gH2⟩
 have lp:=hc.lt
 clear hc gV gV0 gV1 gV2 gH gH0 gH1 gH2
 go_enter Try.func14,Try.ntmps14
 go_upto_region 2 with fail
 obtain⟨u,hu⟩:∃y,(w.alloc (.cells #[.slice none 0 0,.slice none 0 0] 47)).alloc (.cells #[.slice none 0 0,.slice none 0 0] 47)=y:=⟨_,rfl⟩
 rw[hu]at D0⊢
 obtain⟨r,hr⟩:∃y,w.heap.size=y:=⟨_,rfl⟩
 obtain⟨q,hq⟩:∃y,w.heap.size+1=y:=⟨_,rfl⟩
 have D1:Hid (DS w p ao n cap r q (.slice none 0 0) [] (.slice none 0 0) [] u):=by rw[<-hr,<-hq];exact D0
 rw[hq,hr]
 clear hu hr hq D0
 go_wp2_with fail
 refine(l1Below_any p ao n cap 4 _ (by omega) D1.out.K).mono ?_
 rintro e u1⟨x,rfl,x0,x4,f,c⟩
 have D2:Hid (DS w p ao n cap r q (.slice none 0 0) [] (.slice none 0 0) [] u1):=D1.out.fw f c
 clear f c D1
 obtain⟨m,hm⟩:∃m:Nat,(m:Int)=1+x:=⟨(1+x).toNat,by omega⟩
 have m1:1<=m:=by omega
 have m4:m<=4:=by omega
 go_upto_region 3 with fail
 rw[<-hm]
 clear hm x0 x4
 go_wp2_with fail
 go_loopw [5](fun iv wr=>∃(vH:Value)(hs:List HS),iv=.int .i64 (hs.length:Int)/\hs.length<=m/\Hid (∀h∈hs,8<=h.size/\h.size<=47)/\DS w p ao n cap r q vH hs (.slice none 0 0) [] wr)(fun iv _=>m-(intOf iv).toNat)
 case atStart=>exact⟨_,[],rfl,by simp,fun h hh=>(by cases hh),D2.out⟩
 case round=>
  clear D2
  obtain⟨vH,hs,rfl,hle,HHS,hx⟩:=hrel
  have D3:Hid (DS w p ao n cap r q vH hs (.slice none 0 0) [] wr):=hx
  clear hx
  by_cases hlt:hs.length<m
  ·have hlt':(hs.length:Int)<(m:Int):=by omega
   go_upto_region 7 with fail
   obtain⟨u2,hu2,b2⟩:∃y,wr.alloc (.cells #[.int .i64 0,.bool false,.bool false] 78)=y/\Below wr.heap.size wr y:=⟨_,rfl,(Below.refl _ _).alloc (Nat.le_refl _) _⟩
   have n2:=V3.new wr 78 (.int .i64 0) (.bool false) (.bool false)
   rw[hu2]at n2⊢
   have D4:Hid (DS w p ao n cap r q vH hs (.slice none 0 0) [] u2):=D3.out.below b2
   have hqb:q<wr.heap.size:=D3.out.cells.2.2.2
   have hnH:vH.ownBlock≠some wr.heap.size:=fun e=>by have:=own_lt D3.out.H e;omega
   obtain⟨hb,hhb⟩:∃y,wr.heap.size=y:=⟨_,rfl⟩
   rw[hhb]at n2 hqb hnH⊢
   have N2:Hid (V3 u2 hb 78 (.int .i64 0) (.bool false) (.bool false)):=n2
   have HN:Hid (vH.ownBlock≠some hb/\(Value.slice none 0 0).ownBlock≠some hb/\p≠hb):=⟨hnH,(by intro e;cases e),by have:=D3.out.pw;have:=D3.out.wr;have:=D3.out.rq;omega⟩
   clear hu2 b2 n2 hhb hnH D3
   go_wp2_with fail
   refine(l1Below_any p ao n cap 40 _ (by omega) D4.out.K).mono ?_
   rintro e u3⟨sz,rfl,sz0,sz1,f,c⟩
   have D5:Hid (DS w p ao n cap r q vH hs (.slice none 0 0) [] u3):=D4.out.fw f c
   have N3:Hid (V3 u3 hb 78 (.int .i64 0) (.bool false) (.bool false)):=hq_fw N2.out f HN.out.2.2
   clear f c D4 N2
   obtain⟨c0,c1,c2⟩:=N3.out.cells
   have cf:=N3.out.free
   have cl:=N3.out.lt
   go_upto_region 8 with fail
   obtain⟨u4,hu4⟩:∃y,u3.setCell ⟨hb,0,none⟩ (.int .i64 (8+sz))=y:=⟨_,rfl⟩
   have D6:Hid (DS w p ao n cap r q vH hs (.slice none 0 0) [] u4):=by rw[<-hu4];exact D5.out.put hqb HN.out.1 HN.out.2.1 _ _
   have N4:Hid (V3 u4 hb 78 (.int .i64 (8+sz)) (.bool false) (.bool false)):=by rw[<-hu4];exact hq_set N3.out 0 _
   rw[hu4]
   clear hu4 D5 N3 c0 c1 c2 cf cl
   go_wp2_with fail
   refine(l1Once_any p ao n cap 2 _ (by omega) D6.out.K).mono ?_
   rintro e u5⟨sc,rfl,f,c⟩
   have D7:Hid (DS w p ao n cap r q vH hs (.slice none 0 0) [] u5):=D6.out.fw f c
   have N5:Hid (V3 u5 hb 78 (.int .i64 (8+sz)) (.bool false) (.bool false)):=hq_fw N4.out f HN.out.2.2
   clear f c D6 N4
   obtain⟨c0,c1,c2⟩:=N5.out.cells
   have cf:=N5.out.free
   have cl:=N5.out.lt
   go_upto_region 9 with fail
   obtain⟨u6,hu6⟩:∃y,u5.setCell ⟨hb,1,none⟩ (.bool sc)=y:=⟨_,rfl⟩
   have D8:Hid (DS w p ao n cap r q vH hs (.slice none 0 0) [] u6):=by rw[<-hu6];exact D7.out.put hqb HN.out.1 HN.out.2.1 _ _
   have N6:Hid (V3 u6 hb 78 (.int .i64 (8+sz)) (.bool sc) (.bool false)):=by rw[<-hu6];exact hq_set N5.out 1 _
   rw[hu6]
   clear hu6 D7 N5 c0 c1 c2 cf cl
   go_wp2_with fail
   refine(l1Below_any p ao n cap 3 _ (by omega) D8.out.K).mono ?_
   rintro e u7⟨y,rfl,y0,y1,f,c⟩
   have D9:Hid (DS w p ao n cap r q vH hs (.slice none 0 0) [] u7):=D8.out.fw f c
   have N7:Hid (V3 u7 hb 78 (.int .i64 (8+sz)) (.bool sc) (.bool false)):=hq_fw N6.out f HN.out.2.2
   clear f c D8 N6
   obtain⟨c0,c1,c2⟩:=N7.out.cells
   have cf:=N7.out.free
   have cl:=N7.out.lt
   obtain⟨wb,hwb⟩:∃b,decide (0<y)=b:=⟨_,rfl⟩
   go_upto_region 10 with fail
   obtain⟨u8,hu8⟩:∃y,u7.setCell ⟨hb,2,none⟩ (.bool wb)=y:=⟨_,rfl⟩
   have D10:Hid (DS w p ao n cap r q vH hs (.slice none 0 0) [] u8):=by rw[<-hu8];exact D9.out.put hqb HN.out.1 HN.out.2.1 _ _
   have N8:Hid (V3 u8 hb 78 (.int .i64 (8+sz)) (.bool sc) (.bool wb)):=by rw[<-hu8];exact hq_set N7.out 2 _
   try rw[hwb]
   rw[hu8]
   clear hu8 D9 N7 c0 c1 c2 cf cl hwb
   obtain⟨ha,hcp,hvH⟩:=row_slD D10.out.H
   subst hvH
   obtain⟨x0,x1,xf,xz⟩:=D10.out.cells
   obtain⟨c0,c1,c2⟩:=N8.out.cells
   have cl:=N8.out.lt
   have hBa:∀o,w.heap.size<=(u8.alloc o).heap.size:=fun o=>(D10.out.below ((Below.refl _ _).alloc (Nat.le_refl _) o)).F.size
   have HCN:Hid (∀j x,[Value.int .i64 (8+sz),.bool sc,.bool wb][j]?=some x->(u8.alloc (.cells #[.int .i64 (8+sz),.bool sc,.bool wb] 78)).cell? ((⟨u8.heap.size,0,none⟩:Addr).add j)=some x):=cells_newD u8 _ _
   have OA:Hid (∀o,(u8.alloc o).ownsRow w.heap.size 78 3 (.slice ha hs.length hcp) hs.length (hs.flatMap hcl)):=fun o=>(D10.out.below ((Below.refl _ _).alloc (Nat.le_refl _) o)).H
   have hln:hs.length<=4:=by omega
   go_wp2_with(first|(at_builtin;refine wpList_append_own_at _ rfl _ _ 44 rfl w.heap.size 78 iH _ 3 16 Try.underlying44 HIH.out.1 HIH.out.2.1 HIH.out.2.2.1 HIH.out.2.2.2 rfl (by decide) _ _ _ rfl (OA.out _) ⟨u8.heap.size,0,none⟩ 1 1 [Value.int .i64 (8+sz),.bool sc,.bool wb] rfl rfl HCN.out ?c2 ?c3 ?c4 (hBa _) ?_))
   case c2=>simp[Value.oneCell']
   case c3=>unfold maxLen;omega
   case c4=>omega
   intro v' u9 hown hgrow _ _
   obtain⟨ua,hua,ba⟩:∃y,u8.alloc (.cells #[.int .i64 (8+sz),.bool sc,.bool wb] 78)=y/\Below u8.heap.size u8 y:=⟨_,rfl,(Below.refl _ _).alloc (Nat.le_refl _) _⟩
   rw[hua]at hgrow
   have D11:Hid (DS w p ao n cap r q v' (hs++[⟨8+sz,sc,wb⟩]) (.slice none 0 0) [] (u9.setCell ⟨q,0,none⟩ v')):=(D10.out.below ba).growH (x:=⟨8+sz,sc,wb⟩) hgrow hown
   have hx9:=grown_obj (D10.out.below ba).X hgrow (grown_ne (D10.out.below ba).X (D10.out.below ba).H (by decide))
   have z0:=(hq_cell hx9 0).trans rfl
   have zf:=hq_free hx9
   have zl:=hq_lt hx9
   obtain⟨vb,vcp,rfl⟩:=row_slD hown
   clear hown hgrow ba hua hx9 D10 N8 x0 x1 xf xz c0 c1 c2 cl OA HCN hBa
   go_wp2_with fail
   go_roundw
   case rel=>exact⟨_,hs++[⟨8+sz,sc,wb⟩],by simp,by simp;omega,(fun h hh=>by
    rcases List.mem_append.1 hh with hh|hh
    ·exact HHS.out h hh
    ·obtain rfl:=List.mem_singleton.1 hh
     exact⟨by show 8<=8+sz;omega,by show 8+sz<=47;omega⟩),D11.out⟩
   case measure=>simp[intOf];omega
  ·have hm:hs.length=m:=by omega
   have hend:¬(hs.length:Int)<(m:Int):=by omega
   have HM:Hid (hs.length=m):=hm
   clear hm
   obtain⟨bH,cH,rfl⟩:=row_some' D3.out.H (by omega)
   go_wp2_with fail
   go_loopw [7](fun iv wr=>∃(vR:Value)(vs:List VV),iv=.int .i64 (vs.length:Int)/\vs.length<=8/\Hid (∀v∈vs,GV v m)/\DS w p ao n cap r q (.slice (some ⟨bH,0,none⟩) hs.length cH) hs vR vs wr)(fun iv _=>8-(intOf iv).toNat)
   case atStart=>exact⟨_,[],rfl,by simp,fun h hh=>(by cases hh),D3.out⟩
   case round=>
    clear D3
    obtain⟨vR,vs,rfl,hle8,HVS,hx⟩:=hrel
    have D4:Hid (DS w p ao n cap r q (.slice (some ⟨bH,0,none⟩) hs.length cH) hs vR vs wr):=hx
    clear hx
    by_cases hlt8:vs.length<8
    rotate_left
    ·have h8:vs.length=8:=by omega
     have hend8:¬(vs.length:Int)<8:=by omega
     obtain⟨bR,cR,rfl⟩:=row_some' D4.out.R (by omega)
     rw[h8]at D4
     obtain⟨x0,x1,xf,xz⟩:=D4.out.cells
     have z0:=(hq_cell D4.out.Z 0).trans rfl
     have z1:=(hq_cell D4.out.Z 1).trans rfl
     have zf:=hq_free D4.out.Z
     have zl:=hq_lt D4.out.Z
     have hne:r≠q:=by have:=D4.out.rq;omega
     have hH:bH≠r:=fun e=>grown_ne D4.out.Z D4.out.H (by decide) (by rw[e];rfl)
     have hR:bR≠r:=fun e=>grown_ne D4.out.Z D4.out.R (by decide) (by rw[e];rfl)
     have RR:wr.ownsRow w.heap.size 80 6 (.slice (some ⟨bR,0,none⟩) 8 cR) 8 (vs.flatMap vcl):=by have k:=D4.out.R;rwa [h8]at k
     have SC:Hid (SigCp wr bH hs.length (fun i=>hs.getD i hs0) bR 8 (fun i=>vs.getD i zV)):=⟨⟨(D4.out.H.lt _ rfl).2,fun i=>D4.out.H.frozenAt i,fun i hi=>by rw[D4.out.H.cellAt i hi];exact hcl_get hs i hi⟩,⟨(RR.lt _ rfl).2,fun i=>RR.frozenAt i,fun i hi=>by
      have h8':i<vs.length*6:=by omega
      rw[RR.cellAt i (by omega)];exact vcl_get vs i h8'⟩⟩
     have OK:Hid (sigOK hs.length (fun i=>hs.getD i hs0) 8 (fun i=>vs.getD i zV)=true):=(by
      unfold sigOK goodAll
      simp only[Bool.and_eq_true,decide_eq_true_eq,List.all_eq_true,List.mem_range]
      refine⟨⟨by omega,fun i hi=>?_⟩,trivial,fun i hi=>?_⟩
      ·unfold sigAt
       have:=HHS.out (hs.getD i hs0) (by rw[List.getD_eq_getElem?_getD,List.getElem?_eq_getElem hi];simp)
       simp only[decide_eq_true_eq]
       omega
      ·rw[HM.out]
       exact gv.2 (HVS.out (vs.getD i zV) (by rw[List.getD_eq_getElem?_getD,List.getElem?_eq_getElem (by omega)];simp)):sigOK hs.length (fun i=>hs.getD i hs0) 8 (fun i=>vs.getD i zV)=true)
     have GE:Hid (w.heap.size<=bH/\w.heap.size<=bR/\Fw p w ((wr.setCell ⟨r,0,none⟩ (.slice (some ⟨bH,0,none⟩) hs.length cH)).setCell ⟨r,1,none⟩ (.slice (some ⟨bR,0,none⟩) 8 cR))/\Cur ((wr.setCell ⟨r,0,none⟩ (.slice (some ⟨bH,0,none⟩) hs.length cH)).setCell ⟨r,1,none⟩ (.slice (some ⟨bR,0,none⟩) 8 cR)) p ao n cap):=⟨(D4.out.H.lt _ rfl).1,(RR.lt _ rfl).1,(D4.out.F.put D4.out.wr _ _).put D4.out.wr _ _,(D4.out.K.put (by have:=D4.out.pw;have:=D4.out.wr;omega) _ _).put (by have:=D4.out.pw;have:=D4.out.wr;omega) _ _⟩
     clear D4 HVS HHS RR
     go_wp2_with fail
     refine bodyPost_ret (v:=.agg #[.slice (some ⟨bH,0,none⟩) hs.length cH,.slice (some ⟨bR,0,none⟩) 8 cR]) (by simp[results,Try.results14,go_sem, *]) rfl ⟨bH,cH,hs.length,_,bR,cR,_,rfl,by omega,by omega,⟨(SC.out.h.other (a:=⟨r,0,none⟩) (fun e=>hH e.symm) _).other (a:=⟨r,1,none⟩) (fun e=>hH e.symm) _,(SC.out.r.other (a:=⟨r,0,none⟩) (fun e=>hR e.symm) _).other (a:=⟨r,1,none⟩) (fun e=>hR e.symm) _⟩,OK.out,GE.out.1,GE.out.2.1,GE.out.2.2.1,GE.out.2.2.2⟩
    have hlt8':(vs.length:Int)<8:=by omega
    go_wp2_with fail
    refine(l4DrawNum_any p ao n cap _ D4.out.K).mono ?_
    rintro e u2⟨x,rfl,hxn,f,c⟩
    have D5:Hid (DS w p ao n cap r q (.slice (some ⟨bH,0,none⟩) hs.length cH) hs vR vs u2):=D4.out.fw f c
    have GX:Hid (GV x m):=gv_NumV hxn
    clear f c D4 hxn
    unfold VV.v
    go_upto_region 15 with fail
    obtain⟨u3,hu3,b3⟩:∃y,u2.alloc (.cells #[.int .i64 x.k,.bool x.s,.int .i64 x.m,.int .i64 x.h,.int .i64 x.lo,.int .i64 x.hi] 80)=y/\Below u2.heap.size u2 y:=⟨_,rfl,(Below.refl _ _).alloc (Nat.le_refl _) _⟩
    have n3:VB (u2.alloc (.cells #[.int .i64 x.k,.bool x.s,.int .i64 x.m,.int .i64 x.h,.int .i64 x.lo,.int .i64 x.hi] 80)) u2.heap.size x:=hq_new _ _
    rw[hu3]at n3⊢
    have D6:Hid (DS w p ao n cap r q (.slice (some ⟨bH,0,none⟩) hs.length cH) hs vR vs u3):=D5.out.below b3
    have hqb:q<u2.heap.size:=D5.out.cells.2.2.2
    have hnH:(Value.slice (some ⟨bH,0,none⟩) hs.length cH).ownBlock≠some u2.heap.size:=fun e=>by have:=own_lt D5.out.H e;omega
    have hnR:vR.ownBlock≠some u2.heap.size:=fun e=>by have:=own_lt D5.out.R e;omega
    have hpb:p≠u2.heap.size:=by have:=D5.out.K.lt;omega
    obtain⟨vb,hvb⟩:∃y,u2.heap.size=y:=⟨_,rfl⟩
    rw[hvb]at n3 hqb hnH hnR hpb⊢
    have N3:Hid (VB u3 vb x):=n3
    have HN:Hid ((Value.slice (some ⟨bH,0,none⟩) hs.length cH).ownBlock≠some vb/\vR.ownBlock≠some vb/\p≠vb):=⟨hnH,hnR,hpb⟩
    clear hu3 b3 n3 hvb hnH hnR hpb D5
    go_cut [48](fun s48 wx=>∃zz:Bool,s48=.bool zz/\DS w p ao n cap r q (.slice (some ⟨bH,0,none⟩) hs.length cH) hs vR vs wx/\VB wx vb x)
    case first=>
     by_cases h4:vs.length<4
     ·have e1:decide ((vs.length:Int)<4)=true:=by simp;omega
      go_wp2_with fail
      refine(l1Below_any p ao n cap 4 _ (by omega) D6.out.K).mono ?_
      rintro e u4⟨y,rfl,y0,y1,f,c⟩
      have D7:Hid (DS w p ao n cap r q (.slice (some ⟨bH,0,none⟩) hs.length cH) hs vR vs u4):=D6.out.fw f c
      have N4:Hid (VB u4 vb x):=hq_fw N3.out f HN.out.2.2
      clear f c
      go_wp2_with fail
      go_meet
      exact⟨_,rfl,D7.out,N4.out⟩
     ·have e1:decide ((vs.length:Int)<4)=false:=by simp;omega
      go_wp2_with fail
      go_meet
      exact⟨_,rfl,D6.out,N3.out⟩
    case rest=>
    obtain⟨zz,rfl,d7,n7⟩:=hcut
    have D7:Hid (DS w p ao n cap r q (.slice (some ⟨bH,0,none⟩) hs.length cH) hs vR vs wc):=d7
    have N7:Hid (VB wc vb x):=n7
    clear d7 n7 D6 N3
    generalize wc=u4 at D7 N7⊢
    go_upto_if 48 with fail
    go_cut [8](fun s8 wx=>s8=.pointer (some ⟨vb,0,none⟩)/\∃x':VV,GV x' m/\DS w p ao n cap r q (.slice (some ⟨bH,0,none⟩) hs.length cH) hs vR vs wx/\VB wx vb x')
    case first=>
     cases zz with
     |false=>
      go_wp2_with fail
      go_meet
      exact⟨rfl,x,GX.out,D7.out,N7.out⟩
     |true=>
      go_wp2_with fail
      refine(l4DrawPtr_any p ao n cap (m:Int) _ (by omega) D7.out.K).mono ?_
      rintro e u5⟨x',rfl,hxp,f,c⟩
      have D8:Hid (DS w p ao n cap r q (.slice (some ⟨bH,0,none⟩) hs.length cH) hs vR vs u5):=D7.out.fw f c
      have N8:Hid (VB u5 vb x):=hq_fw N7.out f HN.out.2.2
      have PX:Hid (PtrV x' m):=hxp
      clear f c D7 N7 hxp GX
      unfold VV.v
      obtain⟨c0,c1,c2,c3,c4,c5,cf,cl⟩:=N8.out.cells
      go_upto_region 17 with fail
      obtain⟨u6,hu6,d9,n9⟩:∃y,set6 u5 vb (.int .i64 x'.k) (.bool x'.s) (.int .i64 x'.m) (.int .i64 x'.h) (.int .i64 x'.lo) (.int .i64 x'.hi)=y/\DS w p ao n cap r q (.slice (some ⟨bH,0,none⟩) hs.length cH) hs vR vs y/\VB y vb x':=⟨_,rfl,D8.out.put6 hqb HN.out.1 HN.out.2.1 _ _ _ _ _ _,hq_set6 N8.out _ _ _ _ _ _⟩
      unfold set6 at hu6
      rw[hu6]
      have D9:Hid (DS w p ao n cap r q (.slice (some ⟨bH,0,none⟩) hs.length cH) hs vR vs u6):=d9
      have N9:Hid (VB u6 vb x'):=n9
      clear hu6 d9 n9 D8 N8 c0 c1 c2 c3 c4 c5 cf cl
      go_cut [59](fun s59 wx=>∃zz:Bool,s59=.bool zz/\(zz=true->vs.length<m)/\DS w p ao n cap r q (.slice (some ⟨bH,0,none⟩) hs.length cH) hs vR vs wx/\VB wx vb x')
      case first=>
       by_cases h4:vs.length<m
       ·have e1:decide ((vs.length:Int)<(m:Int))=true:=by simp;omega
        go_wp2_with fail
        refine(l1Below_any p ao n cap 3 _ (by omega) D9.out.K).mono ?_
        rintro e u7⟨y,rfl,y0,y1,f,c⟩
        have D10:Hid (DS w p ao n cap r q (.slice (some ⟨bH,0,none⟩) hs.length cH) hs vR vs u7):=D9.out.fw f c
        have N10:Hid (VB u7 vb x'):=hq_fw N9.out f HN.out.2.2
        clear f c
        go_wp2_with fail
        go_meet
        exact⟨_,rfl,fun _=>h4,D10.out,N10.out⟩
       ·have e1:decide ((vs.length:Int)<(m:Int))=false:=by simp;omega
        go_wp2_with fail
        go_meet
        exact⟨_,rfl,(by intro e;cases e),D9.out,N9.out⟩
      case rest=>
      obtain⟨zz,rfl,hzz,d10,n10⟩:=hcut
      have D10:Hid (DS w p ao n cap r q (.slice (some ⟨bH,0,none⟩) hs.length cH) hs vR vs wc):=d10
      have N10:Hid (VB wc vb x'):=n10
      clear d10 n10 D9 N9
      generalize wc=u7 at D10 N10⊢
      cases zz with
      |false=>
       go_wp2_with fail
       go_meet
       exact⟨rfl,x',gv_PtrV PX.out,D10.out,N10.out⟩
      |true=>
       have h4:=hzz rfl
       clear hzz
       obtain⟨c0,c1,c2,c3,c4,c5,cf,cl⟩:=N10.out.cells
       go_wp2_with fail
       go_meet
       refine⟨rfl,{x' with h:=(vs.length:Int)},Or.inr ?_,D10.out.put hqb HN.out.1 HN.out.2.1 _ _,hq_set N10.out 3 _⟩
       have:=PX.out
       unfold PtrV at this
       exact⟨this.1,this.2.1,this.2.2.1,by show(0:Int)<=vs.length;omega,by show(vs.length:Int)<m;omega,this.2.2.2.2.2⟩
    case rest=>
    obtain⟨rfl,x',gx,d8,n8⟩:=hcut
    have D8:Hid (DS w p ao n cap r q (.slice (some ⟨bH,0,none⟩) hs.length cH) hs vR vs wc):=d8
    have N8:Hid (VB wc vb x'):=n8
    have GX':Hid (GV x' m):=gx
    clear d8 n8 D7 N7 gx GX
    generalize wc=u5 at D8 N8⊢
    obtain⟨ra,rcp,hvR⟩:=row_slD D8.out.R
    subst hvR
    obtain⟨x0,x1,xf,xz⟩:=D8.out.cells
    obtain⟨c0,c1,c2,c3,c4,c5,cf,cl⟩:=N8.out.cells
    have hBa:∀o,w.heap.size<=(u5.alloc o).heap.size:=fun o=>(D8.out.below ((Below.refl _ _).alloc (Nat.le_refl _) o)).F.size
    have HCN:Hid (∀j y,(vcl x')[j]?=some y->(u5.alloc (.cells #[.int .i64 x'.k,.bool x'.s,.int .i64 x'.m,.int .i64 x'.h,.int .i64 x'.lo,.int .i64 x'.hi] 80)).cell? ((⟨u5.heap.size,0,none⟩:Addr).add j)=some y):=cells_newD u5 _ _
    have OA:Hid (∀o,(u5.alloc o).ownsRow w.heap.size 80 6 (.slice ra vs.length rcp) vs.length (vs.flatMap vcl)):=fun o=>(D8.out.below ((Below.refl _ _).alloc (Nat.le_refl _) o)).R
    go_wp2_with(first|(at_builtin;refine wpList_append_own_at _ rfl _ _ 45 rfl w.heap.size 80 iV _ 6 48 Try.underlying45 HIV.out.1 HIV.out.2.1 HIV.out.2.2.1 HIV.out.2.2.2 rfl (by decide) _ _ _ rfl (OA.out _) ⟨u5.heap.size,0,none⟩ 1 1 (vcl x') rfl rfl HCN.out ?c2 ?c3 ?c4 (hBa _) ?_))
    case c2=>simp[vcl,Value.oneCell']
    case c3=>unfold maxLen;omega
    case c4=>omega
    intro v' u9 hown hgrow _ _
    obtain⟨ua,hua,ba⟩:∃y,u5.alloc (.cells #[.int .i64 x'.k,.bool x'.s,.int .i64 x'.m,.int .i64 x'.h,.int .i64 x'.lo,.int .i64 x'.hi] 80)=y/\Below u5.heap.size u5 y:=⟨_,rfl,(Below.refl _ _).alloc (Nat.le_refl _) _⟩
    rw[hua]at hgrow
    have D11:Hid (DS w p ao n cap r q (.slice (some ⟨bH,0,none⟩) hs.length cH) hs v' (vs++[x']) (u9.setCell ⟨q,1,none⟩ v')):=(D8.out.below ba).growR (x:=x') hgrow hown
    have hx9:=grown_obj (D8.out.below ba).X hgrow (grown_ne (D8.out.below ba).X (D8.out.below ba).R (by decide))
    have z0:=(hq_cell hx9 1).trans rfl
    have zf:=hq_free hx9
    have zl:=hq_lt hx9
    obtain⟨vb2,vcp,rfl⟩:=row_slD hown
    clear hown hgrow ba hua hx9 D8 N8 x0 x1 xf xz c0 c1 c2 c3 c4 c5 cf cl OA HCN hBa
    go_wp2_with fail
    go_roundw
    case rel=>exact⟨_,vs++[x'],by simp,by simp;omega,(fun h hh=>by
     rcases List.mem_append.1 hh with hh|hh
     ·exact HVS.out h hh
     ·obtain rfl:=List.mem_singleton.1 hh
      exact GX'.out),D11.out⟩
    case measure=>simp[intOf];omega
structure MX(w:World)(p:Nat)(ao:Option Addr)(n cap:Nat)(bA cA:Nat)(V:Nat->VV)(z c:Int)(bb r q:Nat)(x:IV)(u:World):Prop where
 I:IW w p ao n cap r q x u
 A:V3 u bb 106 (.slice (some ⟨bA,0,none⟩) 8 cA) (.int .i64 z) (.int .i64 c)
 G:Arr u bA (8*6) (vF V)
 o1:w.heap.size=bb
 o2:bb<r
 o3:r<q
 o4:bA<w.heap.size
 o5:bA≠p
section
variable{w:World}{p:Nat}{ao:Option Addr}{n cap:Nat}{bA cA:Nat}{V:Nat->VV}{z c:Int}{bb r q:Nat}{x:IV}{u u':World}
theorem MX.fw(h:MX w p ao n cap bA cA V z c bb r q x u)(f:Fw p u u')(k:Cur u' p ao n cap):MX w p ao n cap bA cA V z c bb r q x u':=
 ⟨h.I.fw f k,hq_fw h.A f (by have:=h.I.pw;have:=h.o1;omega),f.arr h.G h.o5,h.o1,h.o2,h.o3,h.o4,h.o5⟩
theorem MX.below(h:MX w p ao n cap bA cA V z c bb r q x u)(f:Below u.heap.size u u'):MX w p ao n cap bA cA V z c bb r q x u':=h.fw (.of_below f) (h.I.K.below f)
theorem MX.set(h:MX w p ao n cap bA cA V z c bb r q x u){y:IV}{j:Nat}{v:Value}(hi:IW w p ao n cap r q y (u.setCell ⟨q,j,none⟩ v)):MX w p ao n cap bA cA V z c bb r q y (u.setCell ⟨q,j,none⟩ v):=by
 have o1:=h.o1;have o2:=h.o2;have o3:=h.o3;have o4:=h.o4;exact⟨hi,h.A.put (by omega) _ _,h.G.other (by show q≠bA;omega) _,o1,o2,o3,o4,h.o5⟩
theorem MX.acells(h:MX w p ao n cap bA cA V z c bb r q x u):u.cell? ⟨bb,0,none⟩=some (.slice (some ⟨bA,0,none⟩) 8 cA)/\bb<u.heap.size/\bA<u.heap.size:=⟨h.A.cells.1,h.A.lt,h.G.lt⟩
end
theorem l4DrawMemory_any(p:Nat)(ao:Option Addr)(n cap:Nat)(bA cA:Nat)(V:Nat->VV)(z c:Int)(w:World)(hc:Cur w p ao n cap)(hA:Arr w bA (8*6) (vF V))(hp:bA≠p):
 Calls Try.prog 60 #[.pointer (some ⟨p,0,none⟩),.agg #[.slice (some ⟨bA,0,none⟩) 8 cA,.int .i64 z,.int .i64 c]] w fun e w'=>∃x:IV,e=.returned (.agg x.c)/\Fw p w w'/\Cur w' p ao n cap:=by
 have HC:Hid (Cur w p ao n cap):=hc;have HA:Hid (Arr w bA (8*6) (vF V)):=hA;have lp:=hc.lt;have lA:=hA.lt;clear hc hA;go_enter Try.func60,Try.ntmps60;go_wp2_with fail;obtain⟨u0,hu0,b0,pa,pr⟩:∃y,(w.alloc (.cells #[.slice (some ⟨bA,0,none⟩) 8 cA,.int .i64 z,.int .i64 c] 106)).alloc (.cells #[.int .i64 0,.int .i64 0,.int .i64 0,.int .i64 0,.int .i64 0,.int .i64 0] 31)=y/\Below w.heap.size w y/\V3 y w.heap.size 106 (.slice (some ⟨bA,0,none⟩) 8 cA) (.int .i64 z) (.int .i64 c)/\Ib y (w.heap.size+1) ⟨0,0,0,0,0,0⟩:=by
  have e1:(w.alloc (.cells #[.slice (some ⟨bA,0,none⟩) 8 cA,.int .i64 z,.int .i64 c] 106)).heap.size=w.heap.size+1:=by simp
  refine⟨_,rfl,((Below.refl _ _).alloc (Nat.le_refl _) _).alloc (by simp) _,(V3.new _ _ _ _ _).below ((Below.refl _ _).alloc (Nat.le_refl _) _),?_⟩;rw[<-e1];exact hq_new _ _
 rw[hu0];refine(l1DrawIns_any p ao n cap 21 28 _ (by omega) (by omega) (by omega) (HC.out.below b0)).mono ?_;rintro e u1⟨x,rfl,hxb,f,k⟩;have B1:Hid (Fw p w u1):=(Fw.of_below b0).trans f;have PA:Hid (V3 u1 w.heap.size 106 (.slice (some ⟨bA,0,none⟩) 8 cA) (.int .i64 z) (.int .i64 c)):=hq_fw pa f (by omega);have PR:Hid (Ib u1 (w.heap.size+1) ⟨0,0,0,0,0,0⟩):=pr.fw f (by omega);have GA:Hid (Arr u1 bA (8*6) (vF V)):=f.arr (HA.out.below b0 lA) hp;have K1:Hid (Cur u1 p ao n cap):=k;have HXB:Hid (0<=x.b/\x.b<=7):=hxb;clear hu0 b0 pa pr f k hxb HC HA;unfold IV.c;go_upto_region 2 with fail;obtain⟨u2,hu2,m2⟩:∃y,u1.alloc (.cells #[.int .i64 x.o,.int .i64 x.d,.int .i64 x.a,.int .i64 x.b,.int .i64 x.i,.int .i64 x.h] 31)=y/\MX w p ao n cap bA cA V z c w.heap.size (w.heap.size+1) u1.heap.size x y:=by
  have bn:Below u1.heap.size u1 (u1.alloc (.cells #[.int .i64 x.o,.int .i64 x.d,.int .i64 x.a,.int .i64 x.b,.int .i64 x.i,.int .i64 x.h] 31)):=(Below.refl _ _).alloc (Nat.le_refl _) _;have lr:=PR.out.lt;exact⟨_,rfl,⟨B1.out.trans (.of_below bn),K1.out.below bn,PR.out.below bn,hq_new _ _,lp,by omega,by omega,by omega,HXB.out⟩,PA.out.below bn,GA.out.below bn GA.out.lt,rfl,by omega,by omega,lA,hp⟩
 rw[hu2];obtain⟨bb,hbb⟩:∃y,w.heap.size=y:=⟨_,rfl⟩
 obtain⟨r,hr⟩:∃y,w.heap.size+1=y:=⟨_,rfl⟩
 obtain⟨q,hq⟩:∃y,u1.heap.size=y:=⟨_,rfl⟩
 have M2:Hid (MX w p ao n cap bA cA V z c bb r q x u2):=by rw[<-hbb,<-hr,<-hq];exact m2
 rw[hq,hr,hbb];clear hu2 m2 hbb hr hq B1 PA PR GA K1 HXB lA;go_wp2_with fail;refine(l1Reg_any p ao n cap _ M2.out.I.K).mono ?_;rintro e u3⟨y,rfl,y0,y8,f,k⟩;have M3:Hid (MX w p ao n cap bA cA V z c bb r q x u3):=M2.out.fw f k;clear f k M2;go_upto_block 0 with fail;go_cut [6](fun s6 wx=>∃j:Nat,s6=.int .i64 (j:Int)/\j<8/\MX w p ao n cap bA cA V z c bb r q x wx)
 case first=>
  go_wp2_with fail;go_loopw [6,7](fun rv kv wr=>∃(k j:Nat),rv=.int .i64 (j:Int)/\kv=.int .i64 (k:Int)/\k<=8/\j<8/\MX w p ao n cap bA cA V z c bb r q x wr)(fun _ kv _=>8-(intOf kv).toNat)
  case atStart=>exact⟨0,y.toNat,by rw[show(y.toNat:Int)=y by omega],rfl,by omega,by omega,M3.out⟩
  case round=>
   clear M3;obtain⟨k,j,rfl,rfl,hk,hj,mx⟩:=hrel;have M4:Hid (MX w p ao n cap bA cA V z c bb r q x wr):=mx;clear mx;by_cases hk8:k<8
   rotate_left
   ·have e1:decide ((k:Int)<8)=false:=by simp;omega
    go_wp2_with fail;go_meet;exact⟨j,rfl,hj,M4.out⟩
   have e1:decide ((k:Int)<8)=true:=by simp;omega
   obtain⟨a0,al,gl⟩:=M4.out.acells;obtain⟨g0,_,_,_,_,_⟩:=v_at M4.out.G hj;have hj8:(j:Int)<8:=by omega
   by_cases hk1:(V j).k=1
   ·have e2:((V j).k !=1)=false:=by simp[hk1]
    have HK1:Hid ((V j).k=1):=hk1;clear hk1;go_wp2_with fail;go_meet;exact⟨j,rfl,hj,M4.out⟩
   ·have e2:((V j).k !=1)=true:=by simp[hk1]
    go_wp2_with fail;go_roundw
    case rel=>exact⟨k+1,(j+1)%8,by congr 1,by go_num,by omega,by omega,M4.out⟩
    case measure=>simp[intOf];omega
 case rest=>
 clear M3 y0 y8;obtain⟨j,rfl,hj,mx⟩:=hcut;have M4:Hid (MX w p ao n cap bA cA V z c bb r q x wc):=mx;clear mx;generalize wc=u4 at M4⊢;obtain⟨a0,al,gl⟩:=M4.out.acells;obtain⟨_,_,_,g3,_,_⟩:=v_at M4.out.G hj;have hj8:(j:Int)<8:=by omega
 obtain⟨c0,c1,c2,c3,c4,c5,cf,cl⟩:=M4.out.I.X.cells;have hqb:q≠bb:=by have:=M4.out.o2;have:=M4.out.o3;omega
 have hqA:q≠bA:=by have:=M4.out.o1;have:=M4.out.o2;have:=M4.out.o3;have:=M4.out.o4;omega
 go_upto_region 9 with fail;obtain⟨u5,hu5,m5⟩:∃y,(u4.setCell ⟨q,2,none⟩ (.int .i64 (j:Int))).setCell ⟨q,5,none⟩ (.int .i64 (V j).h)=y/\MX w p ao n cap bA cA V z c bb r q {x with a:=(j:Int),h:=(V j).h} y:=⟨_,rfl,by
  have s1:=M4.out.set (M4.out.I.setA (j:Int));exact s1.set (s1.I.setH (V j).h)⟩
 rw[hu5];obtain⟨x5,hx5⟩:∃y:IV,{x with a:=(j:Int),h:=(V j).h}=y:=⟨_,rfl⟩
 rw[hx5]at m5;have M5:Hid (MX w p ao n cap bA cA V z c bb r q x5 u5):=m5;clear hu5 m5 hx5 M4 a0 al gl g3 c0 c1 c2 c3 c4 c5 cf cl;obtain⟨c0,c1,c2,c3,c4,c5,cf,cl⟩:=M5.out.I.X.cells;go_upto_if 40 with fail;go_cut [5](fun s5 wx=>s5=.pointer (some ⟨q,0,none⟩)/\∃x6,MX w p ao n cap bA cA V z c bb r q x6 wx)
 case first=>
  by_cases ho:x5.o<25
  ·go_wp2_with fail
   refine(l1Below_any p ao n cap 12 _ (by omega) M5.out.I.K).mono ?_;rintro e u6⟨i,rfl,i0,i1,f,k⟩;have M6:Hid (MX w p ao n cap bA cA V z c bb r q x5 u6):=M5.out.fw f k;clear f k c0 c1 c2 c3 c4 c5 cf cl;obtain⟨c0,c1,c2,c3,c4,c5,cf,cl⟩:=M6.out.I.X.cells;go_wp2_with fail;go_meet;exact⟨rfl,_,M6.out.set (M6.out.I.setI i)⟩
  ·go_wp2_with fail
   go_meet;exact⟨rfl,_,M5.out⟩
 case rest=>
 clear M5 c0 c1 c2 c3 c4 c5 cf cl;obtain⟨rfl,x6,mx⟩:=hcut;have M6:Hid (MX w p ao n cap bA cA V z c bb r q x6 wc):=mx;clear mx;generalize wc=u6 at M6⊢;obtain⟨c0,c1,c2,c3,c4,c5,cf,cl⟩:=M6.out.I.X.cells;go_upto_if 46 with fail;go_cut [5](fun s5 wx=>s5=.pointer (some ⟨q,0,none⟩)/\∃x6,MX w p ao n cap bA cA V z c bb r q x6 wx)
 case first=>
  by_cases ho:25<=x6.o
  rotate_left
  ·go_wp2_with fail
   go_meet;exact⟨rfl,_,M6.out⟩
  rw[show decide (25<=x6.o)=true from decide_eq_true ho];clear ho;go_wp2_with fail;clear c0 c1 c2 c3 c4 c5 cf cl;go_loopw [8](fun kv wr=>∃(k:Nat)(x7:IV),kv=.int .i64 (k:Int)/\k<=8/\MX w p ao n cap bA cA V z c bb r q x7 wr)(fun kv _=>8-(intOf kv).toNat)
  case atStart=>exact⟨0,x6,rfl,by omega,M6.out⟩
  case round=>
   clear M6;obtain⟨k,x7,rfl,hk,mx⟩:=hrel;have M7:Hid (MX w p ao n cap bA cA V z c bb r q x7 wr):=mx;clear mx;by_cases hk8:k<8
   rotate_left
   ·have e1:decide ((k:Int)<8)=false:=by simp;omega
    go_wp2_with fail;go_meet;exact⟨rfl,_,M7.out⟩
   have e1:decide ((k:Int)<8)=true:=by simp;omega
   obtain⟨jb,hjb,hjb8⟩:∃jb:Nat,x7.b=(jb:Int)/\jb<8:=⟨x7.b.toNat,by have:=M7.out.I.rb;omega,by have:=M7.out.I.rb;omega⟩
   obtain⟨a0,al,gl⟩:=M7.out.acells;obtain⟨c0,c1,c2,c3,c4,c5,cf,cl⟩:=M7.out.I.X.cells;obtain⟨g0,g1,g2,g3,g4,g5⟩:=v_at M7.out.G hjb8;rw[hjb]at c3;have HJB:Hid (x7.b=(jb:Int)):=hjb;have hj8:(jb:Int)<8:=by omega
   clear hjb;go_wp2_with fail;refine(l4Max_any _ _ _ _ _ _ _).mono ?_;rintro e y8⟨rfl,hb⟩;have M8:Hid (MX w p ao n cap bA cA V z c bb r q x7 y8):=M7.out.below hb;clear hb M7 a0 al gl c0 c1 c2 c3 c4 c5 cf cl g0 g1 g2 g3 g4 g5;obtain⟨mx,hmx⟩:∃y:Int,maxV ⟨(V jb).k,(V jb).s,(V jb).m,(V jb).h,(V jb).lo,(V jb).hi⟩=y:=⟨_,rfl⟩
   rw[hmx];clear hmx;obtain⟨a0,al,gl⟩:=M8.out.acells;obtain⟨c0,c1,c2,c3,c4,c5,cf,cl⟩:=M8.out.I.X.cells;obtain⟨g0,g1,g2,g3,g4,g5⟩:=v_at M8.out.G hjb8;rw[HJB.out]at c3;have GO:Hid (MX w p ao n cap bA cA V z c bb r q {x7 with b:=((jb+1)%8:Nat)} (y8.setCell ⟨q,3,none⟩ (.int .i64 ((jb+1)%8:Nat)))):=M8.out.set (M8.out.I.setB _ ⟨by omega,by omega⟩);obtain⟨jm,hjm⟩:∃y:Nat,(jb+1)%8=y:=⟨_,rfl⟩
   rw[hjm]at GO;have HM2:Hid (((jb:Int)+1)%8=(jm:Int)):=(by omega:((jb:Int)+1)%8=(jm:Int))
   clear hjm;obtain⟨sc,hsc⟩:∃b,(V jb).s=b:=⟨_,rfl⟩
   rw[hsc]at g1;have M9:Hid (MX w p ao n cap bA cA V z c bb r q x7 y8):=M8.out;clear M8 hsc;by_cases hm:mx<0
   ·have e2:decide (mx<0)=true:=by simp;omega
    go_wp2_with fail;go_roundw
    case rel=>exact⟨k+1,{x7 with b:=((jb:Int)+1)%8},by go_num,by omega,by rw[HM2.out];exact GO.out⟩
    case measure=>simp[intOf];omega
   ·have e2:decide (mx<0)=false:=by simp;omega
    cases sc with
    |true=>
     go_wp2_with fail;go_roundw
     case rel=>exact⟨k+1,{x7 with b:=((jb:Int)+1)%8},by go_num,by omega,by rw[HM2.out];exact GO.out⟩
     case measure=>simp[intOf];omega
    |false=>
     go_wp2_with fail;go_meet;exact⟨rfl,_,M9.out⟩
 case rest=>
 clear M6 c0 c1 c2 c3 c4 c5 cf cl;obtain⟨rfl,x8,mx⟩:=hcut;have M8:Hid (MX w p ao n cap bA cA V z c bb r q x8 wc):=mx;clear mx;generalize wc=y8 at M8⊢;go_wp2_with fail;refine(l1Once_any p ao n cap 12 _ (by omega) M8.out.I.K).mono ?_;rintro e u9⟨b,rfl,f,k⟩;have M9:Hid (MX w p ao n cap bA cA V z c bb r q x8 u9):=M8.out.fw f k;clear f k M8;go_upto_if 76 with fail;go_cut [5](fun s5 wx=>s5=.pointer (some ⟨q,0,none⟩)/\∃x6,MX w p ao n cap bA cA V z c bb r q x6 wx)
 case first=>
  cases b with
  |false=>
   go_wp2_with fail;go_meet;exact⟨rfl,_,M9.out⟩
  |true=>
   go_wp2_with fail;refine(l1Below_any p ao n cap 4 _ (by omega) M9.out.I.K).mono ?_;rintro e u10⟨i,rfl,i0,i1,f,k⟩;have M10:Hid (MX w p ao n cap bA cA V z c bb r q x8 u10):=M9.out.fw f k;clear f k;obtain⟨c0,c1,c2,c3,c4,c5,cf,cl⟩:=M10.out.I.X.cells;go_wp2_with fail;go_meet;exact⟨rfl,_,M10.out.set (M10.out.I.setH i)⟩
 case rest=>
 clear M9;obtain⟨rfl,x9,mx⟩:=hcut;have M10:Hid (MX w p ao n cap bA cA V z c bb r q x9 wc):=mx;clear mx;generalize wc=u10 at M10⊢;obtain⟨c0,c1,c2,c3,c4,c5,cf,cl⟩:=M10.out.I.X.cells;obtain⟨b0,b1,b2,b3,b4,b5,bf,bl⟩:=M10.out.I.R.cells;have FF:Hid (∀v0 v1 v2 v3 v4 v5,Fw p w ((((((u10.setCell ⟨r,0,none⟩ v0).setCell ⟨r,1,none⟩ v1).setCell ⟨r,2,none⟩ v2).setCell ⟨r,3,none⟩ v3).setCell ⟨r,4,none⟩ v4).setCell ⟨r,5,none⟩ v5)/\Cur ((((((u10.setCell ⟨r,0,none⟩ v0).setCell ⟨r,1,none⟩ v1).setCell ⟨r,2,none⟩ v2).setCell ⟨r,3,none⟩ v3).setCell ⟨r,4,none⟩ v4).setCell ⟨r,5,none⟩ v5) p ao n cap):=fun v0 v1 v2 v3 v4 v5=>by
  have hr:=M10.out.I.wr;have hp:p<r:=by omega
  exact⟨(((((M10.out.I.F.put hr _ _).put hr _ _).put hr _ _).put hr _ _).put hr _ _).put hr _ _,(((((M10.out.I.K.put hp _ _).put hp _ _).put hp _ _).put hp _ _).put hp _ _).put hp _ _⟩
 have hne:=M10.out.I.ne;clear M10;go_wp2_with fail;exact bodyPost_ret (v:=.agg x9.c) (by simp[results,Try.results60,go_sem,IV.c, *]) rfl ⟨⟨x9,rfl⟩,(FF.out _ _ _ _ _ _).1,(FF.out _ _ _ _ _ _).2⟩
def gb:Nat->Nat
 |0=>1
 |d+1=>6+5*gb d
theorem gb_pos:∀d,1<=gb d
 |0=>Nat.le_refl _
 |d+1=>by show 1<=6+5*gb d;omega
def GenR(nH:Nat)(S:Nat->HS)(V0:Nat->VV)(bA m:Nat)(w:World)(p:Nat)(ao:Option Addr)(n cap:Nat)(e:Ending)(w':World):Prop:=
 ∃(g cg:Nat)(xs:List SV)(gA cA:Nat)(V:Nat->VV)(z c:Int),e=.returned (.tuple #[.slice (some ⟨g,0,none⟩) xs.length cg,.agg #[.slice (some ⟨gA,0,none⟩) 8 cA,.int .i64 z,.int .i64 c]])/\Wl xs/\xs.length<=m/\w'.ownsRow w.heap.size 33 11 (.slice (some ⟨g,0,none⟩) xs.length cg) xs.length (cs xs)/\(gA=bA∨w.heap.size<=gA)/\Arr w' gA (8*6) (vF V)/\absOK nH S 8 V0 8 V z c=true/\Fw p w w'/\Cur w' p ao n cap
structure GX(w:World)(p:Nat)(ao:Option Addr)(n cap:Nat)(bH cH nH:Nat)(S:Nat->HS)(bR cR:Nat)(V0:Nat->VV)(bA cA:Nat)(V:Nat->VV)(z c:Int)(bs ba br:Nat)(u:World):Prop where
 F:Fw p w u
 K:Cur u p ao n cap
 sg:u.heap[bs]?=some (.cells #[.slice (some ⟨bH,0,none⟩) nH cH,.slice (some ⟨bR,0,none⟩) 8 cR] 47)
 A:V3 u ba 106 (.slice (some ⟨bA,0,none⟩) 8 cA) (.int .i64 z) (.int .i64 c)
 R:V3 u br 106 (.slice none 0 0) (.int .i64 0) (.int .i64 0)
 sc:SigCp u bH nH S bR 8 V0
 G:Arr u bA (8*6) (vF V)
 ok:absOK nH S 8 V0 8 V z c=true
 lH:nH<=8
 pw:p<w.heap.size
 o1:w.heap.size=bs
 o2:bs<ba
 o3:ba<br
 n1:bH<w.heap.size
 n2:bR<w.heap.size
 n3:bA≠br
 p1:bH≠p
 p2:bR≠p
 p3:bA≠p
section
variable{w:World}{p:Nat}{ao:Option Addr}{n cap:Nat}{bH cH nH:Nat}{S:Nat->HS}{bR cR:Nat}{V0:Nat->VV}{bA cA:Nat}{V:Nat->VV}{z c:Int}{bs ba br:Nat}{u u':World}
theorem GX.fw(h:GX w p ao n cap bH cH nH S bR cR V0 bA cA V z c bs ba br u)(f:Fw p u u')(k:Cur u' p ao n cap):GX w p ao n cap bH cH nH S bR cR V0 bA cA V z c bs ba br u':=by
 have o0:=h.pw;have o1:=h.o1;have o2:=h.o2;have o3:=h.o3;exact⟨h.F.trans f,k,hq_fw h.sg f (by omega),hq_fw h.A f (by omega),hq_fw h.R f (by omega),⟨f.arr h.sc.h h.p1,f.arr h.sc.r h.p2⟩,f.arr h.G h.p3,h.ok,h.lH,o0,o1,o2,o3,h.n1,h.n2,h.n3,h.p1,h.p2,h.p3⟩
theorem GX.below(h:GX w p ao n cap bH cH nH S bR cR V0 bA cA V z c bs ba br u)(f:Below u.heap.size u u'):GX w p ao n cap bH cH nH S bR cR V0 bA cA V z c bs ba br u':=h.fw (.of_below f) (h.K.below f)
theorem GX.put(h:GX w p ao n cap bH cH nH S bR cR V0 bA cA V z c bs ba br u){q:Nat}(hq:br<q)(hA:bA≠q)(j:Nat)(v:Value):GX w p ao n cap bH cH nH S bR cR V0 bA cA V z c bs ba br (u.setCell ⟨q,j,none⟩ v):=by
 have o0:=h.pw;have o1:=h.o1;have o2:=h.o2;have o3:=h.o3;have n1:=h.n1;have n2:=h.n2;exact⟨h.F.put (by omega) _ _,h.K.put (by omega) _ _,hq_other h.sg (by omega) _ _,hq_other h.A (by omega) _ _,hq_other h.R (by omega) _ _,⟨h.sc.h.other (by show q≠bH;omega) _,h.sc.r.other (by show q≠bR;omega) _⟩,h.G.other (by show q≠bA;omega) _,h.ok,h.lH,o0,o1,o2,o3,n1,n2,h.n3,h.p1,h.p2,h.p3⟩
theorem GX.put6(h:GX w p ao n cap bH cH nH S bR cR V0 bA cA V z c bs ba br u){q:Nat}(hq:br<q)(hA:bA≠q)(a0 a1 a2 a3 a4 a5:Value):GX w p ao n cap bH cH nH S bR cR V0 bA cA V z c bs ba br (set6 u q a0 a1 a2 a3 a4 a5):=
 (((((h.put hq hA _ _).put hq hA _ _).put hq hA _ _).put hq hA _ _).put hq hA _ _).put hq hA _ _
theorem GX.cells(h:GX w p ao n cap bH cH nH S bR cR V0 bA cA V z c bs ba br u):(u.cell? ⟨bs,0,none⟩=some (.slice (some ⟨bH,0,none⟩) nH cH)/\u.cell? ⟨bs,1,none⟩=some (.slice (some ⟨bR,0,none⟩) 8 cR))/\(u.cell? ⟨ba,0,none⟩=some (.slice (some ⟨bA,0,none⟩) 8 cA)/\u.cell? ⟨ba,1,none⟩=some (.int .i64 z)/\u.cell? ⟨ba,2,none⟩=some (.int .i64 c))/\bs<u.heap.size/\ba<u.heap.size:=
 ⟨⟨(hq_cell h.sg 0).trans rfl,(hq_cell h.sg 1).trans rfl⟩,h.A.cells,hq_lt h.sg,h.A.lt⟩
end
theorem gx_new(w:World){p:Nat}{ao:Option Addr}{n cap:Nat}{bH cH nH:Nat}{S:Nat->HS}{bR cR:Nat}{V0:Nat->VV}{bA cA:Nat}{V:Nat->VV}{z c:Int}(hc:Cur w p ao n cap)(h1:SigCp w bH nH S bR 8 V0)(h2:Arr w bA (8*6) (vF V))(h3:absOK nH S 8 V0 8 V z c=true)(p1:bH≠p)(p2:bR≠p)(p3:bA≠p):
 GX w p ao n cap bH cH nH S bR cR V0 bA cA V z c w.heap.size (w.heap.size+1) (w.heap.size+1+1) (((w.alloc (.cells #[.slice (some ⟨bH,0,none⟩) nH cH,.slice (some ⟨bR,0,none⟩) 8 cR] 47)).alloc (.cells #[.slice (some ⟨bA,0,none⟩) 8 cA,.int .i64 z,.int .i64 c] 106)).alloc (.cells #[.slice none 0 0,.int .i64 0,.int .i64 0] 106)):=by
 have n0:=hq_new w (.cells #[.slice (some ⟨bH,0,none⟩) nH cH,.slice (some ⟨bR,0,none⟩) 8 cR] 47);generalize hx:w.alloc (.cells #[.slice (some ⟨bH,0,none⟩) nH cH,.slice (some ⟨bR,0,none⟩) 8 cR] 47)=x at *;have s0:x.heap.size=w.heap.size+1:=by rw[<-hx];simp
 have b0:Below w.heap.size w x:=by rw[<-hx];exact(Below.refl _ _).alloc (Nat.le_refl _) _
 have n1:=V3.new x 106 (.slice (some ⟨bA,0,none⟩) 8 cA) (.int .i64 z) (.int .i64 c);generalize hy:x.alloc (.cells #[.slice (some ⟨bA,0,none⟩) 8 cA,.int .i64 z,.int .i64 c] 106)=y at *;have s1:y.heap.size=w.heap.size+1+1:=by rw[<-hy];simp[s0]
 have b1:Below x.heap.size x y:=by rw[<-hy];exact(Below.refl _ _).alloc (Nat.le_refl _) _
 have n2:=V3.new y 106 (.slice none 0 0) (.int .i64 0) (.int .i64 0);have b2:Below y.heap.size y (y.alloc (.cells #[.slice none 0 0,.int .i64 0,.int .i64 0] 106)):=(Below.refl _ _).alloc (Nat.le_refl _) _;have bb:Below w.heap.size w (y.alloc (.cells #[.slice none 0 0,.int .i64 0,.int .i64 0] 106)):=(b0.trans (b1.mono (by omega))).trans (b2.mono (by omega));rw[s0]at n1;rw[s1]at n2;have l2:=h2.lt;exact⟨.of_below bb,hc.below bb,hq_below (hq_below n0 b1) b2,n1.below b2,n2,h1.below bb,h2.below bb h2.lt,h3,(good_regs h3).2.1,hc.lt,rfl,by omega,by omega,h1.h.lt,h1.r.lt,by omega,p1,p2,p3⟩
theorem fw_set3{p:Nat}{w u:World}(h:Fw p w u){b:Nat}(hb:w.heap.size<=b)(x y z:Value):Fw p w (((u.setCell ⟨b,0,none⟩ x).setCell ⟨b,1,none⟩ y).setCell ⟨b,2,none⟩ z):=((h.put hb _ _).put hb _ _).put hb _ _
theorem cur_set3{p n cap:Nat}{ao:Option Addr}{u:World}(h:Cur u p ao n cap){b:Nat}(hb:p<b)(x y z:Value):Cur (((u.setCell ⟨b,0,none⟩ x).setCell ⟨b,1,none⟩ y).setCell ⟨b,2,none⟩ z) p ao n cap:=((h.put hb _ _).put hb _ _).put hb _ _
theorem arr_set3{b g n:Nat}{f:Nat->Value}{u:World}(h:Arr u g n f)(hn:g≠b)(x y z:Value):Arr (((u.setCell ⟨b,0,none⟩ x).setCell ⟨b,1,none⟩ y).setCell ⟨b,2,none⟩ z) g n f:=((h.other (fun e=>hn e.symm) _).other (fun e=>hn e.symm) _).other (fun e=>hn e.symm) _
theorem row_set3{u:World}{base e size n b:Nat}{v:Value}{xs:List Value}(h:u.ownsRow base e size v n xs)(hn:v.ownBlock≠some b)(x y z:Value):(((u.setCell ⟨b,0,none⟩ x).setCell ⟨b,1,none⟩ y).setCell ⟨b,2,none⟩ z).ownsRow base e size v n xs:=row_put (row_put (row_put h hn _ _) hn _ _) hn _ _
theorem Tn.set3{u u':World}{b:Nat}(h:Tn (some b) u u')(x y z:Value):Tn (some b) u (((u'.setCell ⟨b,0,none⟩ x).setCell ⟨b,1,none⟩ y).setCell ⟨b,2,none⟩ z):=fun q hq hn=>by
 have hne:q≠b:=fun e=>hn (by rw[e])
 rw[Below.heap_setCell _ ⟨b,2,none⟩ z q hne,Below.heap_setCell _ ⟨b,1,none⟩ y q hne,Below.heap_setCell _ ⟨b,0,none⟩ x q hne];exact h q hq hn
def insS(x:IV):SV:=⟨1,x.o,x.d,x.a,x.b,x.i,x.h,0,0,0,0⟩
theorem wl_ins(x:IV):Wl [insS x]:=.ins rfl rfl rfl .nil
theorem l5GenIns_any(p:Nat)(ao:Option Addr)(n cap:Nat)(bH cH nH:Nat)(S:Nat->HS)(bR cR:Nat)(V0:Nat->VV)(bA cA:Nat)(V:Nat->VV)(z c busy:Int)(w:World)(hc:Cur w p ao n cap)(h1:SigCp w bH nH S bR 8 V0)(h2:Arr w bA (8*6) (vF V))(h3:absOK nH S 8 V0 8 V z c=true)(p1:bH≠p)(p2:bR≠p)(p3:bA≠p):
 Calls Try.prog 48 #[.pointer (some ⟨p,0,none⟩),.agg #[.slice (some ⟨bH,0,none⟩) nH cH,.slice (some ⟨bR,0,none⟩) 8 cR],.agg #[.slice (some ⟨bA,0,none⟩) 8 cA,.int .i64 z,.int .i64 c],.int .i64 busy] w (GenR nH S V0 bA 1 w p ao n cap):=by
 have X0:Hid (GX w p ao n cap bH cH nH S bR cR V0 bA cA V z c w.heap.size (w.heap.size+1) (w.heap.size+1+1) (((w.alloc (.cells #[.slice (some ⟨bH,0,none⟩) nH cH,.slice (some ⟨bR,0,none⟩) 8 cR] 47)).alloc (.cells #[.slice (some ⟨bA,0,none⟩) 8 cA,.int .i64 z,.int .i64 c] 106)).alloc (.cells #[.slice none 0 0,.int .i64 0,.int .i64 0] 106))):=gx_new w hc h1 h2 h3 p1 p2 p3
 have LA:Hid (bA<w.heap.size):=h2.lt
 clear hc h1 h2 h3 p1 p2 p3
 go_enter Try.func48,Try.ntmps48
 go_upto_region 1 with fail
 obtain⟨u,hu⟩:∃y,((w.alloc (.cells #[.slice (some ⟨bH,0,none⟩) nH cH,.slice (some ⟨bR,0,none⟩) 8 cR] 47)).alloc (.cells #[.slice (some ⟨bA,0,none⟩) 8 cA,.int .i64 z,.int .i64 c] 106)).alloc (.cells #[.slice none 0 0,.int .i64 0,.int .i64 0] 106)=y:=⟨_,rfl⟩
 rw[hu]at X0⊢
 obtain⟨bs,hbs⟩:∃y,w.heap.size=y:=⟨_,rfl⟩
 obtain⟨ba,hba⟩:∃y,w.heap.size+1=y:=⟨_,rfl⟩
 obtain⟨br,hbr⟩:∃y,w.heap.size+1+1=y:=⟨_,rfl⟩
 have X0:Hid (GX w p ao n cap bH cH nH S bR cR V0 bA cA V z c bs ba br u):=by rw[<-hbs,<-hba,<-hbr];exact X0
 rw[hbr,hba,hbs]
 have BO:Hid (w.heap.size=bs/\bs<ba/\ba<br):=⟨hbs,by omega,by omega⟩
 clear hu hbs hba hbr
 go_wp2_with fail
 go_loopw [10](fun kv wr=>∃(k:Nat),kv=.int .i64 (k:Int)/\k<=6/\GX w p ao n cap bH cH nH S bR cR V0 bA cA V z c bs ba br wr)(fun kv _=>6-(intOf kv).toNat)
 case atStart=>exact⟨0,rfl,by omega,X0.out⟩
 case round=>
  clear X0
  obtain⟨k,rfl,hk,x⟩:=hrel
  have X:Hid (GX w p ao n cap bH cH nH S bR cR V0 bA cA V z c bs ba br wr):=x
  clear x
  by_cases hk6:k<6
  rotate_left
  ·have hk6':¬(k:Int)<6:=by omega
   go_upto_region 11 with fail
   have j0:∀w',Tn (some br) wr w'->w'.cell? ⟨ba,0,none⟩=some (.slice (some ⟨bA,0,none⟩) 8 cA):=fun w' h=>(X.out.A.tn h (by have:=X.out.o3;simp;omega)).cells.1
   have j1:∀w',Tn (some br) wr w'->w'.cell? ⟨ba,1,none⟩=some (.int .i64 z):=fun w' h=>(X.out.A.tn h (by have:=X.out.o3;simp;omega)).cells.2.1
   have j2:∀w',Tn (some br) wr w'->w'.cell? ⟨ba,2,none⟩=some (.int .i64 c):=fun w' h=>(X.out.A.tn h (by have:=X.out.o3;simp;omega)).cells.2.2
   refine wp_region_held_drew (S:=fun w'=>Tn (some br) wr w') (by kernel_rfl) (Tn.of (Below.refl _ _).drew) (fun _=>?_)
   refine wpAnyH_tk 1 ?k1v rfl ?k1y ?k1r
   case k1y=>(intro w hSw;(try dsimp only at hSw);go_simp;try with_reducible rfl)
   try go_frame
   have hbd:Below wr.heap.size wr wr.drew:=(Below.refl _ _).drew
   generalize wr.drew=t0 at hbd⊢
   refine wpAnyH_ready (rs:=[0]) (by kernel_rfl) (by simp) ?_
   refine AllReadyH.cons rfl (fun KK hK=>?_) AllReadyH.nil
   go_simp
   obtain⟨t1,ht1,b1,o1⟩:∃y,t0.alloc (.cells #[] 33)=y/\Below t0.heap.size t0 y/\y.ownsRow t0.heap.size 33 11 (.slice (some ⟨t0.heap.size,0,none⟩) 0 0) 0 []:=⟨_,rfl,(Below.refl _ _).alloc (Nat.le_refl _) _,World.ownsRow_lit t0 #[] 0 (Nat.le_refl _) (by unfold maxLen;omega) rfl⟩
   rw[ht1]
   have hB1:Below wr.heap.size wr t1:=hbd.trans (b1.mono hbd.size)
   refine hK.out _ _ (Tn.of hB1) (fun _=>?_)
   clear hK KK
   try go_frame
   refine wpAnyH_tk 2 ?k2v rfl ?k2y ?k2r
   case k2y=>(intro w hSw;(try dsimp only at hSw);go_simp;try with_reducible rfl)
   try go_frame
   have X1:=X.out.below hB1
   obtain⟨r0,r1,r2⟩:=X1.R.cells
   have rf:=X1.R.free
   have rl:=X1.R.lt
   have hbz:br<t0.heap.size:=by have:=hbd.size;have:=X.out.R.lt;omega
   have HO:Hid (t1.ownsRow w.heap.size 33 11 (.slice (some ⟨t0.heap.size,0,none⟩) 0 0) 0 []):=row_down o1 (by have:=X.out.F.size;have:=hbd.size;omega)
   obtain⟨nb,hnb⟩:∃y,t0.heap.size=y:=⟨_,rfl⟩
   rw[hnb]at HO hbz⊢
   have RES:Hid (Fw p w t1/\Cur t1 p ao n cap/\Arr t1 bA (8*6) (vF V)/\absOK nH S 8 V0 8 V z c=true/\bA≠br/\w.heap.size<=br/\p<br):=⟨X1.F,X1.K,X1.G,X1.ok,X1.n3,by have:=BO.out;omega,by have:=BO.out;have:=X1.pw;omega⟩
   have TT:Hid (Tn (some br) wr t1):=Tn.of hB1
   clear hbd ht1 b1 o1 hB1 X1 hnb j0 j1 j2 X
   refine wpAnyH_ready (rs:=[3]) (by kernel_rfl) (by simp) ?_
   refine AllReadyH.cons rfl (fun KK hK=>?_) AllReadyH.nil
   go_simp
   refine hK.out _ _ (TT.out.set3 _ _ _) (fun _=>?_)
   clear hK KK
   refine wpAnyH_done (by kernel_rfl) ?_ _
   go_wp2_with fail
   refine bodyPost_ret (v:=.tuple #[.slice (some ⟨nb,0,none⟩) 0 0,.agg #[.slice (some ⟨bA,0,none⟩) 8 cA,.int .i64 z,.int .i64 c]]) (by simp[results,Try.results48,go_sem, *]) rfl ⟨nb,0,[],bA,cA,V,z,c,rfl,.nil,by simp,?_,Or.inl rfl,?_,RES.out.2.2.2.1,?_,?_⟩
   ·exact row_set3 HO.out (by intro e;have:nb=br:=Option.some.inj e;omega) _ _ _
   ·exact arr_set3 RES.out.2.2.1 RES.out.2.2.2.2.1 _ _ _
   ·exact fw_set3 RES.out.1 RES.out.2.2.2.2.2.1 _ _ _
   ·exact cur_set3 RES.out.2.1 RES.out.2.2.2.2.2.2 _ _ _
  have hk6':(k:Int)<6:=by omega
  go_wp2_with fail
  refine(l1DrawIns_any p ao n cap 1 20 _ (by omega) (by omega) (by omega) X.out.K).mono ?_
  rintro e y1⟨x,rfl,_,f,k'⟩
  have X1:Hid (GX w p ao n cap bH cH nH S bR cR V0 bA cA V z c bs ba br y1):=X.out.fw f k'
  clear f k' X
  unfold IV.c
  go_upto_region 5 with fail
  obtain⟨y2,hy2,b2⟩:∃y,y1.alloc (.cells #[.int .i64 x.o,.int .i64 x.d,.int .i64 x.a,.int .i64 x.b,.int .i64 x.i,.int .i64 x.h] 31)=y/\Below y1.heap.size y1 y:=⟨_,rfl,(Below.refl _ _).alloc (Nat.le_refl _) _⟩
  have i2:Ib (y1.alloc (.cells #[.int .i64 x.o,.int .i64 x.d,.int .i64 x.a,.int .i64 x.b,.int .i64 x.i,.int .i64 x.h] 31)) y1.heap.size x:=hq_new _ _
  rw[hy2]at i2⊢
  have X2:Hid (GX w p ao n cap bH cH nH S bR cR V0 bA cA V z c bs ba br y2):=X1.out.below b2
  have hq0:br<y1.heap.size:=X1.out.R.lt
  have hA0:bA≠y1.heap.size:=by have:=X1.out.G.lt;omega
  obtain⟨q,hq⟩:∃y,y1.heap.size=y:=⟨_,rfl⟩
  rw[hq]at i2 hq0 hA0⊢
  have I2:Hid (Ib y2 q x):=i2
  have hpq:q≠p:=by have:=X1.out.pw;have:=BO.out;omega
  clear hy2 b2 i2 hq X1
  go_wp2_with fail
  refine(l1Once_any p ao n cap 3 _ (by omega) X2.out.K).mono ?_
  rintro e y3⟨b,rfl,f,k'⟩
  have X3:Hid (GX w p ao n cap bH cH nH S bR cR V0 bA cA V z c bs ba br y3):=X2.out.fw f k'
  have I3:Hid (Ib y3 q x):=I2.out.fw f hpq
  clear f k' X2 I2
  go_upto_if 21 with fail
  go_cut [11](fun s11 wx=>s11=.pointer (some ⟨q,0,none⟩)/\∃x',GX w p ao n cap bH cH nH S bR cR V0 bA cA V z c bs ba br wx/\Ib wx q x')
  case first=>
   cases b with
   |false=>
    go_wp2_with fail
    go_meet
    exact⟨rfl,x,X3.out,I3.out⟩
   |true=>
    obtain⟨_,⟨a0,a1,a2⟩,al1,al2⟩:=X3.out.cells
    go_wp2_with fail
    refine(l4DrawMemory_any p ao n cap bA cA V z c _ X3.out.K X3.out.G X3.out.p3).mono ?_
    rintro e y4⟨x',rfl,f,k'⟩
    have X4:Hid (GX w p ao n cap bH cH nH S bR cR V0 bA cA V z c bs ba br y4):=X3.out.fw f k'
    have I4:Hid (Ib y4 q x):=I3.out.fw f hpq
    clear f k' a0 a1 a2 al1 al2
    unfold IV.c
    obtain⟨c0,c1,c2,c3,c4,c5,cf,cl⟩:=I4.out.cells
    go_wp2_with fail
    go_meet
    exact⟨rfl,x',X4.out.put6 hq0 hA0 _ _ _ _ _ _,hq_set6 I4.out _ _ _ _ _ _⟩
  case rest=>
  clear X3 I3
  obtain⟨rfl,x',x3,i3⟩:=hcut
  have X3:Hid (GX w p ao n cap bH cH nH S bR cR V0 bA cA V z c bs ba br wc):=x3
  have I3:Hid (Ib wc q x'):=i3
  clear x3 i3
  generalize wc=y3 at X3 I3⊢
  obtain⟨⟨s0,s1⟩,⟨a0,a1,a2⟩,al1,al2⟩:=X3.out.cells
  obtain⟨c0,c1,c2,c3,c4,c5,cf,cl⟩:=I3.out.cells
  go_wp2_with fail
  refine(specTr_any bH cH nH S bR cR 8 V0 bA cA 8 V z c x'.o x'.d x'.a x'.b x'.i x'.h y3 (by have:=X3.out.lH;omega) (by omega) (by omega) X3.out.sc X3.out.G).mono ?_
  rintro e y4⟨err,V2,z2,c2',hans,hok,_,hb⟩
  have X4:Hid (GX w p ao n cap bH cH nH S bR cR V0 bA cA V z c bs ba br y4):=X3.out.below hb
  have I4:Hid (Ib y4 q x'):=I3.out.below hb
  have hq1:q<y3.heap.size:=I3.out.lt
  have HOK:Hid (err=0->absOK nH S 8 V0 8 V2 z2 c2'=true):=hok
  obtain⟨va,vn,vc,zz,cc,HANS⟩:∃(va:Option Addr)(vn vc:Nat)(zz cc:Int),Hid (e=.returned (.agg #[.int .i64 err,.slice va vn vc,.int .i64 zz,.int .i64 cc])/\(err=0->zz=z2/\cc=c2'/\∃g cg,y3.heap.size<=g/\va=some ⟨g,0,none⟩/\vn=8/\vc=cg/\Arr y4 g (8*6) (vF V2))):=by
   rcases hans with⟨hne,h⟩|⟨h0,g,cg,h1,h2,h3⟩
   ·exact⟨none,0,0,0,0,h,fun e=>absurd e hne⟩
   ·subst h0
    exact⟨_,_,_,_,_,h2,fun _=>⟨rfl,rfl,g,cg,h1,rfl,rfl,rfl,h3⟩⟩
  obtain⟨he,HAN⟩:=HANS.out
  subst he
  have HAN:Hid (err=0->zz=z2/\cc=c2'/\∃g cg,y3.heap.size<=g/\va=some ⟨g,0,none⟩/\vn=8/\vc=cg/\Arr y4 g (8*6) (vF V2)):=HAN
  clear hans hok hb HANS X3 I3 s0 s1 a0 a1 a2 al1 al2 c0 c1 c2 c3 c4 c5 cf cl
  go_upto_region 8 with fail
  obtain⟨y5,hy5,b5⟩:∃y,y4.alloc (.cells #[.int .i64 err,.slice va vn vc,.int .i64 zz,.int .i64 cc] 123)=y/\Below y4.heap.size y4 y:=⟨_,rfl,(Below.refl _ _).alloc (Nat.le_refl _) _⟩
  have n5:=hq_new y4 (.cells #[.int .i64 err,.slice va vn vc,.int .i64 zz,.int .i64 cc] 123)
  rw[hy5]at n5⊢
  have X5:Hid (GX w p ao n cap bH cH nH S bR cR V0 bA cA V z c bs ba br y5):=X4.out.below b5
  have I5:Hid (Ib y5 q x'):=I4.out.below b5
  have HAN5:Hid (err=0->zz=z2/\cc=c2'/\∃g cg,y3.heap.size<=g/\va=some ⟨g,0,none⟩/\vn=8/\vc=cg/\Arr y5 g (8*6) (vF V2)):=fun e=>by
   obtain⟨h1,h2,g,cg,h3,h4,h5,h6,h7⟩:=HAN.out e
   exact⟨h1,h2,g,cg,h3,h4,h5,h6,h7.below b5 h7.lt⟩
  obtain⟨nt,hnt⟩:∃y,y4.heap.size=y:=⟨_,rfl⟩
  have hqt:br<y4.heap.size:=X4.out.R.lt
  rw[hnt]at n5 hqt⊢
  have N5:Hid (y5.heap[nt]?=some (.cells #[.int .i64 err,.slice va vn vc,.int .i64 zz,.int .i64 cc] 123)):=n5
  clear hy5 b5 n5 hnt X4 I4 HAN
  go_cut [13](fun s13 wx=>∃b:Bool,s13=.bool b/\wx=y5)
  case first=>
   obtain⟨c0,c1,c2,c3,c4,c5,cf,cl⟩:=I5.out.cells
   by_cases h23:x'.o=23
   ·have e1:(x'.o==23)=true:=by simp[h23]
    clear h23
    go_wp2_with fail
    go_meet
    exact⟨_,rfl,rfl⟩
   have e1:(x'.o==23)=false:=by simp[h23]
   by_cases h24:x'.o=24
   ·have e2:(x'.o==24)=true:=by simp[h24]
    clear h23 h24
    go_wp2_with fail
    go_meet
    exact⟨_,rfl,rfl⟩
   have e2:(x'.o==24)=false:=by simp[h24]
   by_cases h27:x'.o=27
   ·have e3:(x'.o==27)=true:=by simp[h27]
    clear h23 h24 h27
    go_wp2_with fail
    go_meet
    exact⟨_,rfl,rfl⟩
   have e3:(x'.o==27)=false:=by simp[h27]
   clear h23 h24 h27
   go_wp2_with fail
   go_meet
   exact⟨_,rfl,rfl⟩
  case rest=>
  obtain⟨b13,rfl,hwc⟩:=hcut
  rw[hwc]
  clear hwc
  go_upto_region 9 with fail
  go_cut [58](fun s58 wx=>∃b:Bool,s58=.bool b/\(b=true->err=0)/\wx=y5)
  case first=>
   obtain⟨c0,c1,c2,c3,c4,c5,cf,cl⟩:=I5.out.cells
   have v0:=(hq_cell N5.out 0).trans rfl
   have vl:=hq_lt N5.out
   by_cases h0:err=0
   ·have e1:(err==0)=true:=by simp[h0]
    have HE0:Hid (err=0):=h0
    clear h0
    obtain⟨d1,hd1⟩:∃b,(x'.d !=busy)=b:=⟨_,rfl⟩
    cases d1 with
    |true=>
     go_wp2_with fail
     go_meet
     exact⟨_,rfl,fun _=>HE0.out,rfl⟩
    |false=>
     go_wp2_with fail
     go_meet
     exact⟨_,rfl,fun _=>HE0.out,rfl⟩
   ·have e1:(err==0)=false:=by simp[h0]
    go_wp2_with fail
    go_meet
    exact⟨_,rfl,(by intro e;cases e),rfl⟩
  case rest=>
  obtain⟨b58,rfl,hb58,hwc⟩:=hcut
  rw[hwc]
  clear hwc
  cases b58 with
  |false=>
   clear hb58
   go_wp2_with fail
   go_roundw
   case rel=>exact⟨k+1,by go_num,by omega,X5.out⟩
   case measure=>simp[intOf];omega
  |true=>
   have h0:=hb58 rfl
   subst h0
   clear hb58
   obtain⟨hz,hcc,g,cg,hg,rfl,rfl,rfl,hG⟩:=HAN5.out rfl
   subst hz hcc
   have OK2:Hid (absOK nH S 8 V0 8 V2 zz cc=true):=HOK.out rfl
   have hgbr:g≠br:=by omega
   have HG:Hid (Arr y5 g (8*6) (vF V2)):=hG
   have hbrq:br≠q:=by omega
   have hbrt:br≠nt:=by omega
   go_upto_region 10 with fail
   have c0:∀w',Tn (some br) y5 w'->w'.cell? ⟨q,0,none⟩=some (.int .i64 x'.o):=fun w' h=>(World.cell?_of_block (a:=⟨q,0,none⟩) (h q I5.out.lt (by simp;omega))).trans I5.out.cells.1
   have c1:∀w',Tn (some br) y5 w'->w'.cell? ⟨q,1,none⟩=some (.int .i64 x'.d):=fun w' h=>(World.cell?_of_block (a:=⟨q,1,none⟩) (h q I5.out.lt (by simp;omega))).trans I5.out.cells.2.1
   have c2:∀w',Tn (some br) y5 w'->w'.cell? ⟨q,2,none⟩=some (.int .i64 x'.a):=fun w' h=>(World.cell?_of_block (a:=⟨q,2,none⟩) (h q I5.out.lt (by simp;omega))).trans I5.out.cells.2.2.1
   have c3:∀w',Tn (some br) y5 w'->w'.cell? ⟨q,3,none⟩=some (.int .i64 x'.b):=fun w' h=>(World.cell?_of_block (a:=⟨q,3,none⟩) (h q I5.out.lt (by simp;omega))).trans I5.out.cells.2.2.2.1
   have c4:∀w',Tn (some br) y5 w'->w'.cell? ⟨q,4,none⟩=some (.int .i64 x'.i):=fun w' h=>(World.cell?_of_block (a:=⟨q,4,none⟩) (h q I5.out.lt (by simp;omega))).trans I5.out.cells.2.2.2.2.1
   have c5:∀w',Tn (some br) y5 w'->w'.cell? ⟨q,5,none⟩=some (.int .i64 x'.h):=fun w' h=>(World.cell?_of_block (a:=⟨q,5,none⟩) (h q I5.out.lt (by simp;omega))).trans I5.out.cells.2.2.2.2.2.1
   have v1:∀w',Tn (some br) y5 w'->w'.cell? ⟨nt,1,none⟩=some (.slice (some ⟨g,0,none⟩) 8 vc):=fun w' h=>(World.cell?_of_block (a:=⟨nt,1,none⟩) (h nt (hq_lt N5.out) (by simp;omega))).trans ((hq_cell N5.out 1).trans rfl)
   have v2:∀w',Tn (some br) y5 w'->w'.cell? ⟨nt,2,none⟩=some (.int .i64 zz):=fun w' h=>(World.cell?_of_block (a:=⟨nt,2,none⟩) (h nt (hq_lt N5.out) (by simp;omega))).trans ((hq_cell N5.out 2).trans rfl)
   have v3:∀w',Tn (some br) y5 w'->w'.cell? ⟨nt,3,none⟩=some (.int .i64 cc):=fun w' h=>(World.cell?_of_block (a:=⟨nt,3,none⟩) (h nt (hq_lt N5.out) (by simp;omega))).trans ((hq_cell N5.out 3).trans rfl)
   refine wp_region_held_drew (S:=fun w'=>Tn (some br) y5 w') (by kernel_rfl) (Tn.of (Below.refl _ _).drew) (fun _=>?_)
   refine wpAnyH_tk 0 ?k3v rfl ?k3y ?k3r
   case k3y=>(intro w hSw;(try dsimp only at hSw);go_simp;try with_reducible rfl)
   try go_frame
   refine wpAnyH_tk 1 ?k4v rfl ?k4y ?k4r
   case k4y=>(intro w hSw;(try dsimp only at hSw);go_simp;try with_reducible rfl)
   try go_frame
   refine wpAnyH_tk 3 ?k5v rfl ?k5y ?k5r
   case k5y=>(intro w hSw;(try dsimp only at hSw);go_simp;try with_reducible rfl)
   try go_frame
   refine wpAnyH_tk 4 ?k6v rfl ?k6y ?k6r
   case k6y=>(intro w hSw;(try dsimp only at hSw);go_simp;try with_reducible rfl)
   try go_frame
   have hbd:Below y5.heap.size y5 y5.drew:=(Below.refl _ _).drew
   generalize y5.drew=t0 at hbd⊢
   refine wpAnyH_ready (rs:=[2]) (by kernel_rfl) (by simp) ?_
   refine AllReadyH.cons rfl (fun KK hK=>?_) AllReadyH.nil
   go_simp
   obtain⟨t1,ht1,b1,o1⟩:∃y,t0.alloc (.cells #[.int .i64 1,.int .i64 x'.o,.int .i64 x'.d,.int .i64 x'.a,.int .i64 x'.b,.int .i64 x'.i,.int .i64 x'.h,.int .i64 0,.int .i64 0,.int .i64 0,.int .i64 0] 33)=y/\Below t0.heap.size t0 y/\y.ownsRow t0.heap.size 33 11 (.slice (some ⟨t0.heap.size,0,none⟩) 1 1) 1 (cs [insS x']):=⟨_,rfl,(Below.refl _ _).alloc (Nat.le_refl _) _,by rw[cs_one];exact World.ownsRow_lit t0 (stL (insS x')).toArray 1 (Nat.le_refl _) (by unfold maxLen;omega) rfl⟩
   rw[ht1]
   have hB1:Below y5.heap.size y5 t1:=hbd.trans (b1.mono hbd.size)
   refine hK.out _ _ (Tn.of hB1) (fun _=>?_)
   clear hK KK
   try go_frame
   refine wpAnyH_tk 5 ?k7v rfl ?k7y ?k7r
   case k7y=>(intro w hSw;(try dsimp only at hSw);go_simp;try with_reducible rfl)
   try go_frame
   have X1:=X5.out.below hB1
   obtain⟨r0,r1,r2⟩:=X1.R.cells
   have rf:=X1.R.free
   have rl:=X1.R.lt
   have hbz:br<t0.heap.size:=by have:=hbd.size;have:=X5.out.R.lt;omega
   have HO:Hid (t1.ownsRow w.heap.size 33 11 (.slice (some ⟨t0.heap.size,0,none⟩) 1 1) 1 (cs [insS x'])):=row_down o1 (by have:=X5.out.F.size;have:=hbd.size;omega)
   obtain⟨nb,hnb⟩:∃y,t0.heap.size=y:=⟨_,rfl⟩
   rw[hnb]at HO hbz⊢
   have RES:Hid (Fw p w t1/\Cur t1 p ao n cap/\Arr t1 g (8*6) (vF V2)/\w.heap.size<=g/\w.heap.size<=br/\p<br):=⟨X1.F,X1.K,HG.out.below hB1 HG.out.lt,by have:=BO.out;omega,by have:=BO.out;omega,by have:=BO.out;have:=X1.pw;omega⟩
   have TT:Hid (Tn (some br) y5 t1):=Tn.of hB1
   clear hbd ht1 b1 o1 hB1 X1 hnb c0 c1 c2 c3 c4 c5 v1 v2 v3 X5 I5 N5
   refine wpAnyH_ready (rs:=[6]) (by kernel_rfl) (by simp) ?_
   refine AllReadyH.cons rfl (fun KK hK=>?_) AllReadyH.nil
   go_simp
   refine hK.out _ _ (TT.out.set3 _ _ _) (fun _=>?_)
   clear hK KK
   refine wpAnyH_done (by kernel_rfl) ?_ _
   go_wp2_with fail
   refine bodyPost_ret (v:=.tuple #[.slice (some ⟨nb,0,none⟩) 1 1,.agg #[.slice (some ⟨g,0,none⟩) 8 vc,.int .i64 zz,.int .i64 cc]]) (by simp[results,Try.results48,go_sem, *]) rfl ⟨nb,1,[insS x'],g,vc,V2,zz,cc,rfl,wl_ins x',by simp,?_,Or.inr RES.out.2.2.2.1,?_,OK2.out,?_,?_⟩
   ·exact row_set3 HO.out (by intro e;have:nb=br:=Option.some.inj e;omega) _ _ _
   ·exact arr_set3 RES.out.2.2.1 hgbr _ _ _
   ·exact fw_set3 RES.out.1 RES.out.2.2.2.2.1 _ _ _
   ·exact cur_set3 RES.out.2.1 RES.out.2.2.2.2.2 _ _ _
end Go.Proofs.Ytplnpgohdgialaa
