import Derived.Test.YtbahofiiaodpdaaGreatOfDrawFlat
import Derived.Test.YtbahofiiaodpdaaGreatOfValRows
import Derived.Test.YtbahofiiaodpdaaGreatOfAbsWalks
import Derived.Test.YtbahofiiaodpdaaGreatOfFtOk
import Derived.Test.YtbahofiiaodpdaaGreatOfTransSpS
import Derived.Deep.DeepCutAuto
import Derived.Deep.CutBlock
set_option maxHeartbeats 16000000
set_option maxRecDepth 20000
namespace Go.Proofs.YtbahofiiaodpdaaGreat
open Go.RowKit
theorem Fw.arr{p:Nat}{w w':World}{b n:Nat}{f:Nat->Value}(h:Fw p w w')(ha:Arr w b n f)(hn:b≠p):Arr w' b n f:=
 ⟨Nat.lt_of_lt_of_le ha.lt h.size,fun i=>(h.frozen ha.lt hn).trans (ha.free i),fun _ hi=>(h.cell ha.lt hn).trans (ha.cell hi)⟩
theorem Fw.alloc{p:Nat}{a b:World}(h:Fw p a b)(o:Obj):Fw p a (b.alloc o):=h.trans (.of_below ((Below.refl _ _).alloc (Nat.le_refl _) _))
theorem Vb.setLo{w:World}{b:Nat}{x:VV}(h:Vb w b x)(m:Int):Vb (w.setCell ⟨b,4,none⟩ (.int .i64 m)) b {x with lo:=m}:=(Arr.set1 h 4 (by omega) _).congr (vC_cases rfl rfl rfl rfl rfl rfl)
theorem Vb.setHi{w:World}{b:Nat}{x:VV}(h:Vb w b x)(m:Int):Vb (w.setCell ⟨b,5,none⟩ (.int .i64 m)) b {x with hi:=m}:=(Arr.set1 h 5 (by omega) _).congr (vC_cases rfl rfl rfl rfl rfl rfl)
def NumV(x:VV):Prop:=x.k=0/\x.h=0/\x.lo=0/\x.hi=0/\ -1<=x.m/\x.m<=1099511627776
def PtrV(x:VV)(n:Int):Prop:=x.k=1/\x.s=false/\x.m=0/\0<=x.h/\x.h<n/\ -1099511627776<=x.lo/\x.lo<=x.hi/\x.hi<=1099511627776
theorem l4DrawNum_any(p:Nat)(ao:Option Addr)(n cap:Nat)(w:World)(hc:Cur w p ao n cap):
 Calls Tryz.prog 45 #[.pointer (some ⟨p,0,none⟩)] w fun e w'=>∃x:VV,e=.returned x.v/\NumV x/\Fw p w w'/\Cur w' p ao n cap:=by
 have lp:=hc.lt;have HC:Hid (Cur w p ao n cap):=hc;clear hc;go_enter Tryz.func45,Tryz.ntmps45;go_wp2_with fail;refine(l1Once_any p ao n cap 2 _ (by omega) (HC.out.below ((Below.refl _ _).alloc (Nat.le_refl _) _))).mono ?_;rintro e w1⟨s,rfl,f1,k1⟩;have R1:Hid (Vb w1 w.heap.size ⟨0,false,0,0,0,0⟩):=f1.arr (Vb.new w ⟨0,false,0,0,0,0⟩) (by omega);have F1:Hid (Fw p w w1):=((Fw.refl _ _).alloc _).trans f1;have K1:Hid (Cur w1 p ao n cap):=k1;clear f1 k1 HC;go_wp2_with fail;refine(l1Below_any p ao n cap 6 _ (by omega) (K1.out.below ((Below.refl _ _).alloc (Nat.le_refl _) _))).mono ?_;rintro e w2⟨k,rfl,k0,k6,f2,k2⟩;have h23:w.heap.size<w1.heap.size:=R1.out.lt;have lp1:p<w1.heap.size:=by omega
 have V2:Hid (Vb w2 w1.heap.size ⟨0,s,-1,0,0,0⟩):=f2.arr (Vb.new w1 ⟨0,s,-1,0,0,0⟩) (by omega);have R2:Hid (Vb w2 w.heap.size ⟨0,false,0,0,0,0⟩):=f2.arr (R1.out.below ((Below.refl w1.heap.size w1).alloc (Nat.le_refl _) _) R1.out.lt) (by omega);have F2:Hid (Fw p w w2):=(F1.out.alloc _).trans f2;have K2:Hid (Cur w2 p ao n cap):=k2;clear f2 k2 K1 F1 R1;by_cases c3:k<3
 ·go_wp2_with fail
  refine(l1Below_any p ao n cap 20 _ (by omega) K2.out).mono ?_;rintro e w3⟨m,rfl,m0,m1,f3,k3⟩;have V3:Hid (Vb w3 w1.heap.size ⟨0,s,-1,0,0,0⟩):=f3.arr V2.out (by omega);have R3:Hid (Vb w3 w.heap.size ⟨0,false,0,0,0,0⟩):=f3.arr R2.out (by omega);have F3:Hid (Fw p w w3):=F2.out.trans f3;have K3:Hid (Cur w3 p ao n cap):=k3;clear f3 k3 V2 R2 F2 K2;obtain⟨v0,v1,v2,v3,v4,v5⟩:=V3.out.cells;have vf:=V3.out.free;have vl:=V3.out.lt;obtain⟨r0,r1,r2,r3,r4,r5⟩:=R3.out.cells;have rf:=R3.out.free;have rl:=R3.out.lt;go_wp2;refine bodyPost_ret (v:=VV.v ⟨0,s,m,0,0,0⟩) (by simp[results,Tryz.results45,go_sem,VV.v, *]) rfl ⟨⟨0,s,m,0,0,0⟩,rfl,⟨rfl,rfl,rfl,rfl,by simp;omega,by simp;omega⟩,((((((F3.out.put (Nat.le_of_lt h23) _ _).put (Nat.le_refl _) _ _).put (Nat.le_refl _) _ _).put (Nat.le_refl _) _ _).put (Nat.le_refl _) _ _).put (Nat.le_refl _) _ _).put (Nat.le_refl _) _ _,((((((K3.out.put lp1 _ _).put lp _ _).put lp _ _).put lp _ _).put lp _ _).put lp _ _).put lp _ _⟩
 ·by_cases c4:k=3
  ·subst c4
   obtain⟨v0,v1,v2,v3,v4,v5⟩:=V2.out.cells;have vf:=V2.out.free;have vl:=V2.out.lt;obtain⟨r0,r1,r2,r3,r4,r5⟩:=R2.out.cells;have rf:=R2.out.free;have rl:=R2.out.lt;go_wp2;refine bodyPost_ret (v:=VV.v ⟨0,s,255,0,0,0⟩) (by simp[results,Tryz.results45,go_sem,VV.v, *]) rfl ⟨⟨0,s,255,0,0,0⟩,rfl,⟨rfl,rfl,rfl,rfl,by simp,by simp⟩,((((((F2.out.put (Nat.le_of_lt h23) _ _).put (Nat.le_refl _) _ _).put (Nat.le_refl _) _ _).put (Nat.le_refl _) _ _).put (Nat.le_refl _) _ _).put (Nat.le_refl _) _ _).put (Nat.le_refl _) _ _,((((((K2.out.put lp1 _ _).put lp _ _).put lp _ _).put lp _ _).put lp _ _).put lp _ _).put lp _ _⟩
  ·by_cases c5:k=4
   ·subst c5
    go_wp2_with fail;refine(l1Once_any p ao n cap 4 _ (by omega) K2.out).mono ?_;rintro e w3⟨q,rfl,f3,k3⟩;have V3:Hid (Vb w3 w1.heap.size ⟨0,s,-1,0,0,0⟩):=f3.arr V2.out (by omega);have R3:Hid (Vb w3 w.heap.size ⟨0,false,0,0,0,0⟩):=f3.arr R2.out (by omega);have F3:Hid (Fw p w w3):=F2.out.trans f3;have K3:Hid (Cur w3 p ao n cap):=k3;clear f3 k3 V2 R2 F2 K2;cases q with
    |false=>
     obtain⟨v0,v1,v2,v3,v4,v5⟩:=V3.out.cells;have vf:=V3.out.free;have vl:=V3.out.lt;obtain⟨r0,r1,r2,r3,r4,r5⟩:=R3.out.cells;have rf:=R3.out.free;have rl:=R3.out.lt;go_wp2;refine bodyPost_ret (v:=VV.v ⟨0,s,-1,0,0,0⟩) (by simp[results,Tryz.results45,go_sem,VV.v, *]) rfl ⟨⟨0,s,-1,0,0,0⟩,rfl,⟨rfl,rfl,rfl,rfl,by simp,by simp⟩,((((((F3.out).put (Nat.le_refl _) _ _).put (Nat.le_refl _) _ _).put (Nat.le_refl _) _ _).put (Nat.le_refl _) _ _).put (Nat.le_refl _) _ _).put (Nat.le_refl _) _ _,((((((K3.out).put lp _ _).put lp _ _).put lp _ _).put lp _ _).put lp _ _).put lp _ _⟩
    |true=>
     go_wp2_with fail;refine(l1Below_any p ao n cap 3 _ (by omega) K3.out).mono ?_;rintro e w4⟨m,rfl,m0,m1,f4,k4⟩;have V4:Hid (Vb w4 w1.heap.size ⟨0,s,-1,0,0,0⟩):=f4.arr V3.out (by omega);have R4:Hid (Vb w4 w.heap.size ⟨0,false,0,0,0,0⟩):=f4.arr R3.out (by omega);have F4:Hid (Fw p w w4):=F3.out.trans f4;have K4:Hid (Cur w4 p ao n cap):=k4;clear f4 k4 V3 R3 F3 K3;obtain⟨v0,v1,v2,v3,v4,v5⟩:=V4.out.cells;have vf:=V4.out.free;have vl:=V4.out.lt;obtain⟨r0,r1,r2,r3,r4,r5⟩:=R4.out.cells;have rf:=R4.out.free;have rl:=R4.out.lt;go_wp2;refine bodyPost_ret (v:=VV.v ⟨0,s,1099511627776-m,0,0,0⟩) (by simp[results,Tryz.results45,go_sem,VV.v, *]) rfl ⟨⟨0,s,1099511627776-m,0,0,0⟩,rfl,⟨rfl,rfl,rfl,rfl,by simp;omega,by simp;omega⟩,((((((F4.out.put (Nat.le_of_lt h23) _ _).put (Nat.le_refl _) _ _).put (Nat.le_refl _) _ _).put (Nat.le_refl _) _ _).put (Nat.le_refl _) _ _).put (Nat.le_refl _) _ _).put (Nat.le_refl _) _ _,((((((K4.out.put lp1 _ _).put lp _ _).put lp _ _).put lp _ _).put lp _ _).put lp _ _).put lp _ _⟩
   ·skip
    obtain⟨v0,v1,v2,v3,v4,v5⟩:=V2.out.cells;have vf:=V2.out.free;have vl:=V2.out.lt;obtain⟨r0,r1,r2,r3,r4,r5⟩:=R2.out.cells;have rf:=R2.out.free;have rl:=R2.out.lt;go_wp2;refine bodyPost_ret (v:=VV.v ⟨0,s,-1,0,0,0⟩) (by simp[results,Tryz.results45,go_sem,VV.v, *]) rfl ⟨⟨0,s,-1,0,0,0⟩,rfl,⟨rfl,rfl,rfl,rfl,by simp,by simp⟩,((((((F2.out).put (Nat.le_refl _) _ _).put (Nat.le_refl _) _ _).put (Nat.le_refl _) _ _).put (Nat.le_refl _) _ _).put (Nat.le_refl _) _ _).put (Nat.le_refl _) _ _,((((((K2.out).put lp _ _).put lp _ _).put lp _ _).put lp _ _).put lp _ _).put lp _ _⟩
theorem l4DrawPtr_any(p:Nat)(ao:Option Addr)(n cap:Nat)(hs:Int)(w:World)(hm:1<=hs)(hc:Cur w p ao n cap):
 Calls Tryz.prog 46 #[.pointer (some ⟨p,0,none⟩),.int .i64 hs] w fun e w'=>∃x:VV,e=.returned x.v/\PtrV x hs/\Fw p w w'/\Cur w' p ao n cap:=by
 have lp:=hc.lt
 have HC:Hid (Cur w p ao n cap):=hc
 clear hc
 go_enter Tryz.func46,Tryz.ntmps46
 go_wp2_with fail
 refine(l1Below_any p ao n cap hs _ hm (HC.out.below ((Below.refl _ _).alloc (Nat.le_refl _) _))).mono ?_
 rintro e w1⟨h,rfl,h0,h1,f,c⟩
 have R1:Hid (Vb w1 w.heap.size ⟨0,false,0,0,0,0⟩):=f.arr (Vb.new w ⟨0,false,0,0,0,0⟩) (by omega)
 have F1:Hid (Fw p w w1):=((Fw.refl _ _).alloc _).trans f
 have K1:Hid (Cur w1 p ao n cap):=c
 clear f c HC
 have h23:w.heap.size<w1.heap.size:=R1.out.lt
 have lp1:p<w1.heap.size:=by omega
 go_wp2_with fail
 refine(l1Below_any p ao n cap 5 _ (by omega) (K1.out.below ((Below.refl _ _).alloc (Nat.le_refl _) _))).mono ?_
 rintro e w2⟨lo,rfl,l0,l1,f,c⟩
 have V2:Hid (Vb w2 w1.heap.size ⟨1,false,0,h,0,0⟩):=f.arr (Vb.new w1 ⟨1,false,0,h,0,0⟩) (by omega)
 have R2:Hid (Vb w2 w.heap.size ⟨0,false,0,0,0,0⟩):=f.arr (R1.out.below ((Below.refl w1.heap.size w1).alloc (Nat.le_refl _) _) R1.out.lt) (by omega)
 have F2:Hid (Fw p w w2):=(F1.out.alloc _).trans f
 have K2:Hid (Cur w2 p ao n cap):=c
 clear f c K1 F1 R1
 obtain⟨v0,v1,v2,v3,v4,v5⟩:=V2.out.cells
 have vf:=V2.out.free
 have vl:=V2.out.lt
 obtain⟨r0,r1,r2,r3,r4,r5⟩:=R2.out.cells
 have rf:=R2.out.free
 have rl:=R2.out.lt
 go_upto_region 3 with fail
 obtain⟨w3,hw3,V3,R3,F3,K3⟩:∃v,w2.setCell ⟨w1.heap.size,4,none⟩ (.int .i64 lo)=v/\Hid (Vb v w1.heap.size ⟨1,false,0,h,lo,0⟩)/\Hid (Vb v w.heap.size ⟨0,false,0,0,0,0⟩)/\Hid (Fw p w v)/\Hid (Cur v p ao n cap):=⟨_,rfl,V2.out.setLo lo,Arr.other R2.out (by simp;omega) _,F2.out.put (Nat.le_of_lt h23) _ _,K2.out.put lp1 _ _⟩
 rw[hw3]
 clear hw3 V2 R2 F2 K2 v0 v1 v2 v3 v4 v5 vf vl r0 r1 r2 r3 r4 r5 rf rl
 have v4:w3.cell? ⟨w1.heap.size,4,none⟩=some (.int .i64 lo):=V3.out.cells.2.2.2.2.1
 refine wp_region_held_drew (S:=fun w'=>w'.cell? ⟨w1.heap.size,4,none⟩=some (.int .i64 lo)) (by kernel_rfl) ?_ (fun _=>?_)
 ·exact((Below.refl w3.heap.size w3).drew.cell (p:=⟨w1.heap.size,4,none⟩) V3.out.lt).trans v4
 obtain⟨w4,hw4,f,c⟩:∃v,w3.drew=v/\Fw p w3 v/\Cur v p ao n cap:=⟨_,rfl,.of_below (Below.refl _ _).drew,K3.out.below (Below.refl _ _).drew⟩
 rw[hw4]at *
 have V4:Hid (Vb w4 w1.heap.size ⟨1,false,0,h,lo,0⟩):=f.arr V3.out (by omega)
 have R4:Hid (Vb w4 w.heap.size ⟨0,false,0,0,0,0⟩):=f.arr R3.out (by omega)
 have F4:Hid (Fw p w w4):=F3.out.trans f
 have K4:Hid (Cur w4 p ao n cap):=c
 clear f c V3 R3 F3 K3
 clear hw4
 have hS4:=V4.out.cells.2.2.2.2.1
 refine wpAnyH_ta 0 rfl ?_
 refine wpAnyH_ta 1 rfl ?_
 refine wpAnyH_ta 2 rfl ?_
 refine wpAnyH_ta 4 rfl ?_
 refine wpAnyH_ready (rs:=[3]) (by kernel_rfl) (by simp) ?_
 refine AllReadyH.cons rfl (fun KK hK=>?_) AllReadyH.nil
 go_simp
 refine(l1Below_any p ao n cap 4 _ (by omega) K4.out).mono ?_
 rintro e w5⟨q,rfl,q0,q1,f,c⟩
 have V5:Hid (Vb w5 w1.heap.size ⟨1,false,0,h,lo,0⟩):=f.arr V4.out (by omega)
 have R5:Hid (Vb w5 w.heap.size ⟨0,false,0,0,0,0⟩):=f.arr R4.out (by omega)
 have F5:Hid (Fw p w w5):=F4.out.trans f
 have K5:Hid (Cur w5 p ao n cap):=c
 clear f c V4 R4 F4 K4
 go_wp2_with fail
 refine hK.out _ _ V5.out.cells.2.2.2.2.1 (fun hS5=>?_)
 clear hK KK
 try go_frame
 refine wpAnyH_ready (rs:=[5]) (by kernel_rfl) (by simp) ?_
 refine AllReadyH.cons rfl (fun KK hK=>?_) AllReadyH.nil
 go_simp
 refine(l1Below_any p ao n cap 2 _ (by omega) K5.out).mono ?_
 rintro e w6⟨r,rfl,r0,r1,f,c⟩
 have V6:Hid (Vb w6 w1.heap.size ⟨1,false,0,h,lo,0⟩):=f.arr V5.out (by omega)
 have R6:Hid (Vb w6 w.heap.size ⟨0,false,0,0,0,0⟩):=f.arr R5.out (by omega)
 have F6:Hid (Fw p w w6):=F5.out.trans f
 have K6:Hid (Cur w6 p ao n cap):=c
 clear f c V5 R5 F5 K5
 go_wp2_with fail
 refine hK.out _ _ V6.out.cells.2.2.2.2.1 (fun hS6=>?_)
 clear hK KK
 try go_frame
 refine wpAnyH_ta 6 rfl ?_
 refine wpAnyH_ta 7 rfl ?_
 refine wpAnyH_ta 8 rfl ?_
 obtain⟨v0,v1,v2,v3,v4,v5⟩:=V6.out.cells
 have vf:=V6.out.free
 have vl:=V6.out.lt
 obtain⟨r0,r1,r2,r3,r4,r5⟩:=R6.out.cells
 have rf:=R6.out.free
 have rl:=R6.out.lt
 refine wpAnyH_ready (rs:=[9]) (by kernel_rfl) (by simp) ?_
 refine AllReadyH.cons rfl (fun KK hK=>?_) AllReadyH.nil
 go_simp
 have hr:r=0∨r=1:=by omega
 obtain⟨hi,hhi,e0,e1⟩:∃hi:Int,IntKind.i64.wrap (lo+IntKind.i64.wrap (q*r))=hi/\lo<=hi/\hi<=100:=by
  refine⟨_,rfl,?_,?_⟩<;>(rcases hr with rfl|rfl<;>simp only[Int.mul_zero,Int.mul_one,IntKind.wrap_i64]<;>omega)
 rw[hhi]
 clear hhi hr
 obtain⟨w7,hw7,V7,R7,F7,K7⟩:∃v,w6.setCell ⟨w1.heap.size,5,none⟩ (.int .i64 hi)=v/\Hid (Vb v w1.heap.size ⟨1,false,0,h,lo,hi⟩)/\Hid (Vb v w.heap.size ⟨0,false,0,0,0,0⟩)/\Hid (Fw p w v)/\Hid (Cur v p ao n cap):=⟨_,rfl,V6.out.setHi hi,Arr.other R6.out (by simp;omega) _,F6.out.put (Nat.le_of_lt h23) _ _,K6.out.put lp1 _ _⟩
 rw[hw7]
 refine hK.out _ _ V7.out.cells.2.2.2.2.1 (fun _=>?_)
 clear hK KK
 refine wpAnyH_done (by kernel_rfl) ?_ _
 clear hw7 V6 R6 F6 K6 hS4 hS5 hS6 v4 v0 v1 v2 v3 v5 vf vl r0 r1 r2 r3 r4 r5 rf rl
 go_wp2_with fail
 refine(l1Below_any p ao n cap 30 _ (by omega) K7.out).mono ?_
 rintro e w8⟨k,rfl,k0,k1,f,c⟩
 have V8:Hid (Vb w8 w1.heap.size ⟨1,false,0,h,lo,hi⟩):=f.arr V7.out (by omega)
 have R8:Hid (Vb w8 w.heap.size ⟨0,false,0,0,0,0⟩):=f.arr R7.out (by omega)
 have F8:Hid (Fw p w w8):=F7.out.trans f
 have K8:Hid (Cur w8 p ao n cap):=c
 clear f c V7 R7 F7 K7
 by_cases c0:k=0
 ·subst c0
  obtain⟨v0,v1,v2,v3,v4,v5⟩:=V8.out.cells
  have vf:=V8.out.free
  have vl:=V8.out.lt
  obtain⟨r0,r1,r2,r3,r4,r5⟩:=R8.out.cells
  have rf:=R8.out.free
  have rl:=R8.out.lt
  go_wp2
  refine bodyPost_ret (v:=VV.v ⟨1,false,0,h,-1099511627776,hi⟩) (by simp[results,Tryz.results46,go_sem,VV.v, *]) rfl ⟨⟨1,false,0,h,-1099511627776,hi⟩,rfl,⟨rfl,rfl,rfl,h0,h1,by simp,by simp;omega,by simp;omega⟩,((((((F8.out.put (Nat.le_of_lt h23) _ _).put (Nat.le_refl _) _ _).put (Nat.le_refl _) _ _).put (Nat.le_refl _) _ _).put (Nat.le_refl _) _ _).put (Nat.le_refl _) _ _).put (Nat.le_refl _) _ _,((((((K8.out.put lp1 _ _).put lp _ _).put lp _ _).put lp _ _).put lp _ _).put lp _ _).put lp _ _⟩
 ·by_cases c1:k=1
  ·subst c1
   go_wp2_with fail
   refine(l1Below_any p ao n cap 30 _ (by omega) K8.out).mono ?_
   rintro e w9⟨m,rfl,m0,m1,f,c⟩
   have V9:Hid (Vb w9 w1.heap.size ⟨1,false,0,h,lo,hi⟩):=f.arr V8.out (by omega)
   have R9:Hid (Vb w9 w.heap.size ⟨0,false,0,0,0,0⟩):=f.arr R8.out (by omega)
   have F9:Hid (Fw p w w9):=F8.out.trans f
   have K9:Hid (Cur w9 p ao n cap):=c
   clear f c V8 R8 F8 K8
   obtain⟨v0,v1,v2,v3,v4,v5⟩:=V9.out.cells
   have vf:=V9.out.free
   have vl:=V9.out.lt
   obtain⟨r0,r1,r2,r3,r4,r5⟩:=R9.out.cells
   have rf:=R9.out.free
   have rl:=R9.out.lt
   go_wp2
   refine bodyPost_ret (v:=VV.v ⟨1,false,0,h,lo,1099511627776-m⟩) (by simp[results,Tryz.results46,go_sem,VV.v, *]) rfl ⟨⟨1,false,0,h,lo,1099511627776-m⟩,rfl,⟨rfl,rfl,rfl,h0,h1,by simp;omega,by simp;omega,by simp;omega⟩,((((((F9.out.put (Nat.le_of_lt h23) _ _).put (Nat.le_refl _) _ _).put (Nat.le_refl _) _ _).put (Nat.le_refl _) _ _).put (Nat.le_refl _) _ _).put (Nat.le_refl _) _ _).put (Nat.le_refl _) _ _,((((((K9.out.put lp1 _ _).put lp _ _).put lp _ _).put lp _ _).put lp _ _).put lp _ _).put lp _ _⟩
  ·skip
   obtain⟨v0,v1,v2,v3,v4,v5⟩:=V8.out.cells
   have vf:=V8.out.free
   have vl:=V8.out.lt
   obtain⟨r0,r1,r2,r3,r4,r5⟩:=R8.out.cells
   have rf:=R8.out.free
   have rl:=R8.out.lt
   go_wp2
   refine bodyPost_ret (v:=VV.v ⟨1,false,0,h,lo,hi⟩) (by simp[results,Tryz.results46,go_sem,VV.v, *]) rfl ⟨⟨1,false,0,h,lo,hi⟩,rfl,⟨rfl,rfl,rfl,h0,h1,by simp;omega,e0,by simp;omega⟩,((((((F8.out).put (Nat.le_refl _) _ _).put (Nat.le_refl _) _ _).put (Nat.le_refl _) _ _).put (Nat.le_refl _) _ _).put (Nat.le_refl _) _ _).put (Nat.le_refl _) _ _,((((((K8.out).put lp _ _).put lp _ _).put lp _ _).put lp _ _).put lp _ _).put lp _ _⟩
end Go.Proofs.YtbahofiiaodpdaaGreat
namespace Go.Proofs.YtbahofiiaodpdaaGreat
open Go.RowKit Go.Deep
theorem hq_fwU{p q:Nat}{u u':World}{o:Obj}(h:u.heap[q]?=some o)(f:Fw p u u')(hp:p≠q):u'.heap[q]?=some o:=(f.block q (Array.getElem?_eq_some_iff.1 h).1 (fun e=>hp e.symm)).trans h
theorem hq_lt{q:Nat}{u:World}{o:Obj}(h:u.heap[q]?=some o):q<u.heap.size:=(Array.getElem?_eq_some_iff.1 h).1
theorem hq_below{q:Nat}{u u':World}{o:Obj}(h:u.heap[q]?=some o)(f:Below u.heap.size u u'):u'.heap[q]?=some o:=(f.block q (hq_lt h)).trans h
theorem grown_objU{u u':World}{row:Option Nat}{q:Nat}{o:Obj}(h:u.heap[q]?=some o)(hg:u.grownBy u' row)(hn:row≠some q):u'.heap[q]?=some o:=(hg.block q (hq_lt h) (fun e=>hn e.symm)).trans h
theorem grown_neU{B:Nat}{u:World}{q e s n' t:Nat}{v':Value}{xs:List Value}{cs:Array Value}(hx:u.heap[q]?=some (.cells cs t))(h2:u.ownsRow B e s v' n' xs)(he:t≠e):v'.ownBlock≠some q:=fun e1=>by
 rcases h2.2 with⟨h',_⟩|⟨g,cap,cur,h',_,h4,_⟩
 ·rw[h']at e1;cases e1
 ·rw[h']at e1
  have e2:g=q:=Option.some.inj e1;subst e2;rw[hx]at h4;exact he (Obj.cells.inj (Option.some.inj h4)).2.1
def V3(u:World)(b t:Nat)(x y z:Value):Prop:=u.heap[b]?=some (.cells #[x,y,z] t)
theorem V3.cells{u:World}{b t:Nat}{x y z:Value}(h:V3 u b t x y z):u.cell? ⟨b,0,none⟩=some x/\u.cell? ⟨b,1,none⟩=some y/\u.cell? ⟨b,2,none⟩=some z:=⟨(hq_cell h 0).trans rfl,(hq_cell h 1).trans rfl,(hq_cell h 2).trans rfl⟩
theorem V3.lt{u:World}{b t:Nat}{x y z:Value}(h:V3 u b t x y z):b<u.heap.size:=hq_lt h
theorem V3.free{u:World}{b t:Nat}{x y z:Value}(h:V3 u b t x y z):∀i,u.frozen? ⟨b,i,none⟩=false:=hq_free h
theorem V3.below{u u':World}{b t:Nat}{x y z:Value}(h:V3 u b t x y z)(f:Below u.heap.size u u'):V3 u' b t x y z:=hq_below h f
theorem V3.put{u:World}{b t:Nat}{x y z:Value}(h:V3 u b t x y z){q:Nat}(hq:b≠q)(j:Nat)(v:Value):V3 (u.setCell ⟨q,j,none⟩ v) b t x y z:=hq_other h hq j v
theorem V3.set{u:World}{b t:Nat}{x y z:Value}(h:V3 u b t x y z)(x' y' z':Value):V3 (((u.setCell ⟨b,0,none⟩ x').setCell ⟨b,1,none⟩ y').setCell ⟨b,2,none⟩ z') b t x' y' z':=hq_set (hq_set (hq_set h 0 x') 1 y') 2 z'
theorem V3.new(u:World)(t:Nat)(x y z:Value):V3 (u.alloc (.cells #[x,y,z] t)) u.heap.size t x y z:=hq_new u _
theorem v_at{u:World}{b n:Nat}{V:Nat->VV}(h:Arr u b (n*6) (vF V)){q:Nat}(hq:q<n):u.cell? ⟨b,q*6,none⟩=some (.int .i64 (V q).k)/\u.cell? ⟨b,q*6+1,none⟩=some (.bool (V q).s)/\u.cell? ⟨b,q*6+2,none⟩=some (.int .i64 (V q).m)/\u.cell? ⟨b,q*6+3,none⟩=some (.int .i64 (V q).h)/\u.cell? ⟨b,q*6+4,none⟩=some (.int .i64 (V q).lo)/\u.cell? ⟨b,q*6+5,none⟩=some (.int .i64 (V q).hi):=
 ⟨(h.cell (i:=q*6+0) (by omega)).trans (congrArg some (vF_at V q 0 (by omega))),(h.cell (i:=q*6+1) (by omega)).trans (congrArg some (vF_at V q 1 (by omega))),(h.cell (i:=q*6+2) (by omega)).trans (congrArg some (vF_at V q 2 (by omega))),(h.cell (i:=q*6+3) (by omega)).trans (congrArg some (vF_at V q 3 (by omega))),(h.cell (i:=q*6+4) (by omega)).trans (congrArg some (vF_at V q 4 (by omega))),(h.cell (i:=q*6+5) (by omega)).trans (congrArg some (vF_at V q 5 (by omega)))⟩
def vcl(x:VV):List Value:=[.int .i64 x.k,.bool x.s,.int .i64 x.m,.int .i64 x.h,.int .i64 x.lo,.int .i64 x.hi]
theorem own_ge{u:World}{B e s n q:Nat}{v:Value}{xs:List Value}(h:u.ownsRow B e s v n xs)(hq:v.ownBlock=some q):B<=q:=by
 rcases h.2 with⟨h',_⟩|⟨g,cap,cur,h',h1,_⟩
 ·rw[h']at hq;cases hq
 ·rw[h']at hq
  have:g=q:=Option.some.inj hq;omega
def set6(u:World)(b:Nat)(a0 a1 a2 a3 a4 a5:Value):World:=(((((u.setCell ⟨b,0,none⟩ a0).setCell ⟨b,1,none⟩ a1).setCell ⟨b,2,none⟩ a2).setCell ⟨b,3,none⟩ a3).setCell ⟨b,4,none⟩ a4).setCell ⟨b,5,none⟩ a5
theorem hq_set6{u:World}{b t:Nat}{x0 x1 x2 x3 x4 x5:Value}(h:u.heap[b]?=some (.cells #[x0,x1,x2,x3,x4,x5] t))(a0 a1 a2 a3 a4 a5:Value):(set6 u b a0 a1 a2 a3 a4 a5).heap[b]?=some (.cells #[a0,a1,a2,a3,a4,a5] t):=
 hq_set (hq_set (hq_set (hq_set (hq_set (hq_set h 0 a0) 1 a1) 2 a2) 3 a3) 4 a4) 5 a5
theorem row_grw{u u':World}{row:Option Nat}{B e s n:Nat}{v:Value}{xs:List Value}(h:u.ownsRow B e s v n xs)(hg:u.grownBy u' row)(hn:∀q,v.ownBlock=some q->row≠some q):u'.ownsRow B e s v n xs:=by
 refine⟨h.1,?_⟩;rcases h.2 with h|⟨g,cap,cur,rfl,h1,h2,h3⟩
 ·exact .inl h
 ·exact .inr ⟨g,cap,cur,rfl,h1,grown_objU h2 hg (hn g rfl),h3⟩
theorem own_ne{u:World}{B e s n B' e' s' n':Nat}{v v':Value}{xs xs':List Value}(h:u.ownsRow B e s v n xs)(h':u.ownsRow B' e' s' v' n' xs')(he:e≠e'):∀q,v.ownBlock=some q->v'.ownBlock≠some q:=fun q hq=>by
 rcases h.2 with⟨h,_⟩|⟨g,cap,cur,h,_,h2,_⟩
 ·rw[h]at hq;cases hq
 ·rw[h]at hq
  have:g=q:=Option.some.inj hq;subst this;exact grown_neU h2 h' he
theorem own_lt{u:World}{B e s n q:Nat}{v:Value}{xs:List Value}(h:u.ownsRow B e s v n xs)(hq:v.ownBlock=some q):q<u.heap.size:=by
 rcases h.2 with⟨h',_⟩|⟨g,cap,cur,h',_,h2,_⟩
 ·rw[h']at hq;cases hq
 ·rw[h']at hq
  have:g=q:=Option.some.inj hq;have:=hq_lt h2;omega
theorem row_capF{w:World}{B e s n g c:Nat}{xs:List Value}(h:w.ownsRow B e s (.slice (some ⟨g,0,none⟩) n c) n xs):n<=c:=by
 rcases h.2 with⟨h',_⟩|⟨g',cap,cur,h',_,_,h3,_⟩
 ·cases h'
 ·obtain⟨_,_,rfl⟩:=Value.slice.inj h'
  exact h3
def hcl(x:HS):List Value:=[.int .i64 x.size,.bool x.s,.bool x.w]
def hs0:HS:=⟨0,false,false⟩
theorem hcl_get:∀(hs:List HS)(p:Nat),p<hs.length*3->(hs.flatMap hcl)[p]?=some (hsF (fun i=>hs.getD i hs0) p)
 |[],p,h=>by simp at h
 |y::l,p,h=>by
  rw[List.flatMap_cons];by_cases hp:p<3
  ·rw[List.getElem?_append_left (by show p<3;exact hp)]
   unfold hsF;rw[show p/3=0 by omega,show p%3=p by omega];match p,hp with
   |0,_=>rfl
   |1,_=>rfl
   |2,_=>rfl
  ·rw[List.getElem?_append_right (by show 3<=p;omega)]
   show(l.flatMap hcl)[p-3]?=_;rw[hcl_get l (p-3) (by simp at h;omega)];unfold hsF;rw[show(p-3)/3=p/3-1 by omega,show(p-3)%3=p%3 by omega];obtain⟨k,hk⟩:∃k,p/3=k+1:=⟨p/3-1,by omega⟩
   rw[hk];rfl
theorem vcl_get:∀(vs:List VV)(p:Nat),p<vs.length*6->(vs.flatMap vcl)[p]?=some (vF (fun i=>vs.getD i zV) p)
 |[],p,h=>by simp at h
 |y::l,p,h=>by
  rw[List.flatMap_cons];by_cases hp:p<6
  ·rw[List.getElem?_append_left (by show p<6;exact hp)]
   unfold vF;rw[show p/6=0 by omega,show p%6=p by omega];match p,hp with
   |0,_=>rfl
   |1,_=>rfl
   |2,_=>rfl
   |3,_=>rfl
   |4,_=>rfl
   |5,_=>rfl
  ·rw[List.getElem?_append_right (by show 6<=p;omega)]
   show(l.flatMap vcl)[p-6]?=_;rw[vcl_get l (p-6) (by simp at h;omega)];unfold vF;rw[show(p-6)/6=p/6-1 by omega,show(p-6)%6=p%6 by omega];obtain⟨k,hk⟩:∃k,p/6=k+1:=⟨p/6-1,by omega⟩
   rw[hk];rfl
theorem info_cHS:(Tryz.prog.info? 98).map (fun i=>(i.zero,i.size,i.bytes))=some (some (.agg #[.int .i64 0,.bool false,.bool false]),3,16):=by kernel_rfl
structure DS(w:World)(p:Nat)(ao:Option Addr)(n cap r q:Nat)(vH:Value)(hs:List HS)(vR:Value)(vs:List VV)(u:World):Prop where
 F:Fw p w u
 K:Cur u p ao n cap
 Z:u.heap[r]?=some (.cells #[.slice none 0 0,.slice none 0 0] 26)
 X:u.heap[q]?=some (.cells #[vH,vR] 26)
 H:u.ownsRow w.heap.size 98 3 vH hs.length (hs.flatMap hcl)
 R:u.ownsRow w.heap.size 62 6 vR vs.length (vs.flatMap vcl)
 pw:p<w.heap.size
 wr:w.heap.size<=r
 rq:r<q
section
variable{w:World}{p:Nat}{ao:Option Addr}{n cap r q:Nat}{vH:Value}{hs:List HS}{vR:Value}{vs:List VV}{u u':World}
theorem DS.fw(h:DS w p ao n cap r q vH hs vR vs u)(f:Fw p u u')(c:Cur u' p ao n cap):DS w p ao n cap r q vH hs vR vs u':=
 ⟨h.F.trans f,c,hq_fwU h.Z f (by have:=h.pw;have:=h.wr;omega),hq_fwU h.X f (by have:=h.pw;have:=h.wr;have:=h.rq;omega),row_fw h.H f h.pw,row_fw h.R f h.pw,h.pw,h.wr,h.rq⟩
theorem DS.below(h:DS w p ao n cap r q vH hs vR vs u)(f:Below u.heap.size u u'):DS w p ao n cap r q vH hs vR vs u':=h.fw (.of_below f) (h.K.below f)
theorem DS.put(h:DS w p ao n cap r q vH hs vR vs u){b:Nat}(hb:q<b)(n1:vH.ownBlock≠some b)(n2:vR.ownBlock≠some b)(j:Nat)(v:Value):DS w p ao n cap r q vH hs vR vs (u.setCell ⟨b,j,none⟩ v):=by
 have o1:=h.pw;have o2:=h.wr;have o3:=h.rq;exact⟨h.F.put (by omega) _ _,h.K.put (by omega) _ _,hq_other h.Z (by omega) _ _,hq_other h.X (by omega) _ _,row_put h.H n1 _ _,row_put h.R n2 _ _,o1,o2,o3⟩
theorem DS.cells(h:DS w p ao n cap r q vH hs vR vs u):u.cell? ⟨q,0,none⟩=some vH/\u.cell? ⟨q,1,none⟩=some vR/\(∀i,u.frozen? ⟨q,i,none⟩=false)/\q<u.heap.size:=⟨(hq_cell h.X 0).trans rfl,(hq_cell h.X 1).trans rfl,hq_free h.X,hq_lt h.X⟩
theorem DS.growH(h:DS w p ao n cap r q vH hs vR vs u){v':Value}{x:HS}(hg:u.grownBy u' vH.ownBlock)(ho:u'.ownsRow w.heap.size 98 3 v' (hs.length+1) (hs.flatMap hcl++hcl x)):DS w p ao n cap r q v' (hs++[x]) vR vs (u'.setCell ⟨q,0,none⟩ v'):=by
 have o1:=h.pw;have o2:=h.wr;have o3:=h.rq;have X':=grown_objU h.X hg (grown_neU h.X h.H (by decide));have Z':=grown_objU h.Z hg (grown_neU h.Z h.H (by decide));have R':=row_grw h.R hg (fun b hb=>own_ne h.R h.H (by decide) b hb);have ho':u'.ownsRow w.heap.size 98 3 v' (hs++[x]).length ((hs++[x]).flatMap hcl):=by simpa using ho
 exact⟨(h.F.grown hg (fun k hk=>own_ge h.H hk)).put (by omega) _ _,(h.K.grown hg (fun k hk=>by have:=own_ge h.H hk;omega)).put (by omega) _ _,hq_other Z' (by omega) _ _,hq_set X' 0 v',row_put ho' (grown_neU X' ho' (by decide)) _ _,row_put R' (grown_neU X' R' (by decide)) _ _,o1,o2,o3⟩
theorem DS.growR(h:DS w p ao n cap r q vH hs vR vs u){v':Value}{x:VV}(hg:u.grownBy u' vR.ownBlock)(ho:u'.ownsRow w.heap.size 62 6 v' (vs.length+1) (vs.flatMap vcl++vcl x)):DS w p ao n cap r q vH hs v' (vs++[x]) (u'.setCell ⟨q,1,none⟩ v'):=by
 have o1:=h.pw;have o2:=h.wr;have o3:=h.rq;have X':=grown_objU h.X hg (grown_neU h.X h.R (by decide));have Z':=grown_objU h.Z hg (grown_neU h.Z h.R (by decide));have H':=row_grw h.H hg (fun b hb=>own_ne h.H h.R (by decide) b hb);have ho':u'.ownsRow w.heap.size 62 6 v' (vs++[x]).length ((vs++[x]).flatMap vcl):=by simpa using ho
 exact⟨(h.F.grown hg (fun k hk=>own_ge h.R hk)).put (by omega) _ _,(h.K.grown hg (fun k hk=>by have:=own_ge h.R hk;omega)).put (by omega) _ _,hq_other Z' (by omega) _ _,hq_set X' 1 v',row_put H' (grown_neU X' H' (by decide)) _ _,row_put ho' (grown_neU X' ho' (by decide)) _ _,o1,o2,o3⟩
theorem DS.put6(h:DS w p ao n cap r q vH hs vR vs u){b:Nat}(hb:q<b)(n1:vH.ownBlock≠some b)(n2:vR.ownBlock≠some b)(a0 a1 a2 a3 a4 a5:Value):DS w p ao n cap r q vH hs vR vs (set6 u b a0 a1 a2 a3 a4 a5):=
 (((((h.put hb n1 n2 _ _).put hb n1 n2 _ _).put hb n1 n2 _ _).put hb n1 n2 _ _).put hb n1 n2 _ _).put hb n1 n2 _ _
end
def VB(u:World)(b:Nat)(x:VV):Prop:=u.heap[b]?=some (.cells #[.int .i64 x.k,.bool x.s,.int .i64 x.m,.int .i64 x.h,.int .i64 x.lo,.int .i64 x.hi] 62)
theorem VB.cells{u:World}{b:Nat}{x:VV}(h:VB u b x):u.cell? ⟨b,0,none⟩=some (.int .i64 x.k)/\u.cell? ⟨b,1,none⟩=some (.bool x.s)/\u.cell? ⟨b,2,none⟩=some (.int .i64 x.m)/\u.cell? ⟨b,3,none⟩=some (.int .i64 x.h)/\u.cell? ⟨b,4,none⟩=some (.int .i64 x.lo)/\u.cell? ⟨b,5,none⟩=some (.int .i64 x.hi)/\(∀i,u.frozen? ⟨b,i,none⟩=false)/\b<u.heap.size:=
 ⟨(hq_cell h 0).trans rfl,(hq_cell h 1).trans rfl,(hq_cell h 2).trans rfl,(hq_cell h 3).trans rfl,(hq_cell h 4).trans rfl,(hq_cell h 5).trans rfl,hq_free h,hq_lt h⟩
theorem ds_new(w:World)(p:Nat)(ao:Option Addr)(n cap:Nat)(hc:Cur w p ao n cap):DS w p ao n cap w.heap.size (w.heap.size+1) (.slice none 0 0) [] (.slice none 0 0) [] ((w.alloc (.cells #[.slice none 0 0,.slice none 0 0] 26)).alloc (.cells #[.slice none 0 0,.slice none 0 0] 26)):=by
 have b:Below w.heap.size w ((w.alloc (.cells #[.slice none 0 0,.slice none 0 0] 26)).alloc (.cells #[.slice none 0 0,.slice none 0 0] 26)):=((Below.refl _ _).alloc (Nat.le_refl _) _).alloc (by simp) _;have e1:(w.alloc (.cells #[.slice none 0 0,.slice none 0 0] 26)).heap.size=w.heap.size+1:=by simp
 refine⟨.of_below b,hc.below b,?_,?_,World.ownsRow_nil _ _ _ _,World.ownsRow_nil _ _ _ _,hc.lt,Nat.le_refl _,by omega⟩
 ·exact hq_below (hq_new w _) ((Below.refl _ _).alloc (Nat.le_refl _) _)
 ·rw[<-e1];exact hq_new _ _
def SigR(w:World)(p:Nat)(ao:Option Addr)(n cap:Nat)(e:Ending)(w':World):Prop:=
 ∃(bH cH nH:Nat)(S:Nat->HS)(bR cR:Nat)(V0:Nat->VV),e=.returned (.agg #[.slice (some ⟨bH,0,none⟩) nH cH,.slice (some ⟨bR,0,none⟩) 8 cR])/\1<=nH/\nH<=4/\SigCp w' bH nH S bR 8 V0/\sigOK nH S 8 V0=true/\w.heap.size<=bH/\w.heap.size<=bR/\Fw p w w'/\Cur w' p ao n cap/\8<=cR/\bH≠bR
theorem gv_NumV{x:VV}{n:Int}(h:NumV x):GV x n:=Or.inl ⟨h.1,h.2.2.2.2.1,h.2.2.2.2.2,h.2.1,h.2.2.1,h.2.2.2.1⟩
theorem gv_PtrV{x:VV}{n:Int}(h:PtrV x n):GV x n:=Or.inr h
theorem l4DrawSig_any(p:Nat)(ao:Option Addr)(n cap:Nat)(w:World)(hc:Cur w p ao n cap):
 Calls Tryz.prog 13 #[.pointer (some ⟨p,0,none⟩)] w (SigR w p ao n cap):=by
 have D0:Hid (DS w p ao n cap w.heap.size (w.heap.size+1) (.slice none 0 0) [] (.slice none 0 0) [] ((w.alloc (.cells #[.slice none 0 0,.slice none 0 0] 26)).alloc (.cells #[.slice none 0 0,.slice none 0 0] 26))):=ds_new w p ao n cap hc
 obtain⟨iV,gV,gV0,gV1,gV2⟩:=info_parts info_cV
 have HIV:Hid (_/\_/\_/\_):=⟨gV,gV0,gV1,gV2⟩
 obtain⟨iH,gH,gH0,gH1,gH2⟩:=info_parts info_cHS
 have HIH:Hid (_/\_/\_/\_):=⟨gH,gH0,gH1,gH2⟩
 have lp:=hc.lt
 clear hc gV gV0 gV1 gV2 gH gH0 gH1 gH2
 go_enter Tryz.func13,Tryz.ntmps13
 go_upto_region 2 with fail
 obtain⟨u,hu⟩:∃y,(w.alloc (.cells #[.slice none 0 0,.slice none 0 0] 26)).alloc (.cells #[.slice none 0 0,.slice none 0 0] 26)=y:=⟨_,rfl⟩
 rw[hu]at D0⊢
 obtain⟨r,hr⟩:∃y,w.heap.size=y:=⟨_,rfl⟩
 obtain⟨q,hq⟩:∃y,w.heap.size+1=y:=⟨_,rfl⟩
 have D1:Hid (DS w p ao n cap r q (.slice none 0 0) [] (.slice none 0 0) [] u):=by rw[<-hr,<-hq];exact D0
 rw[hq,hr]
 clear hu hr hq D0
 go_wp2_with fail
 refine(l1Below_any p ao n cap 4 _ (by omega) D1.out.K).mono ?_
 rintro e u1⟨x,rfl,x0,x4,f,c⟩
 have D2:Hid (DS w p ao n cap r q (.slice none 0 0) [] (.slice none 0 0) [] u1):=D1.out.fw f c
 clear f c D1
 obtain⟨m,hm⟩:∃m:Nat,(m:Int)=1+x:=⟨(1+x).toNat,by omega⟩
 have m1:1<=m:=by omega
 have m4:m<=4:=by omega
 go_upto_region 3 with fail
 rw[<-hm]
 clear hm x0 x4
 go_wp2_with fail
 go_loopw [5](fun iv wr=>∃(vH:Value)(hs:List HS),iv=.int .i64 (hs.length:Int)/\hs.length<=m/\Hid (∀h∈hs,8<=h.size/\h.size<=47)/\DS w p ao n cap r q vH hs (.slice none 0 0) [] wr)(fun iv _=>m-(intOf iv).toNat)
 case atStart=>exact⟨_,[],rfl,by simp,fun h hh=>(by cases hh),D2.out⟩
 case round=>
  clear D2
  obtain⟨vH,hs,rfl,hle,HHS,hx⟩:=hrel
  have D3:Hid (DS w p ao n cap r q vH hs (.slice none 0 0) [] wr):=hx
  clear hx
  by_cases hlt:hs.length<m
  ·have hlt':(hs.length:Int)<(m:Int):=by omega
   go_upto_region 7 with fail
   obtain⟨u2,hu2,b2⟩:∃y,wr.alloc (.cells #[.int .i64 0,.bool false,.bool false] 98)=y/\Below wr.heap.size wr y:=⟨_,rfl,(Below.refl _ _).alloc (Nat.le_refl _) _⟩
   have n2:=V3.new wr 98 (.int .i64 0) (.bool false) (.bool false)
   rw[hu2]at n2⊢
   have D4:Hid (DS w p ao n cap r q vH hs (.slice none 0 0) [] u2):=D3.out.below b2
   have hqb:q<wr.heap.size:=D3.out.cells.2.2.2
   have hnH:vH.ownBlock≠some wr.heap.size:=fun e=>by have:=own_lt D3.out.H e;omega
   obtain⟨hb,hhb⟩:∃y,wr.heap.size=y:=⟨_,rfl⟩
   rw[hhb]at n2 hqb hnH⊢
   have N2:Hid (V3 u2 hb 98 (.int .i64 0) (.bool false) (.bool false)):=n2
   have HN:Hid (vH.ownBlock≠some hb/\(Value.slice none 0 0).ownBlock≠some hb/\p≠hb):=⟨hnH,(by intro e;cases e),by have:=D3.out.pw;have:=D3.out.wr;have:=D3.out.rq;omega⟩
   clear hu2 b2 n2 hhb hnH D3
   go_wp2_with fail
   refine(l1Below_any p ao n cap 40 _ (by omega) D4.out.K).mono ?_
   rintro e u3⟨sz,rfl,sz0,sz1,f,c⟩
   have D5:Hid (DS w p ao n cap r q vH hs (.slice none 0 0) [] u3):=D4.out.fw f c
   have N3:Hid (V3 u3 hb 98 (.int .i64 0) (.bool false) (.bool false)):=hq_fwU N2.out f HN.out.2.2
   clear f c D4 N2
   obtain⟨c0,c1,c2⟩:=N3.out.cells
   have cf:=N3.out.free
   have cl:=N3.out.lt
   go_upto_region 8 with fail
   obtain⟨u4,hu4⟩:∃y,u3.setCell ⟨hb,0,none⟩ (.int .i64 (8+sz))=y:=⟨_,rfl⟩
   have D6:Hid (DS w p ao n cap r q vH hs (.slice none 0 0) [] u4):=by rw[<-hu4];exact D5.out.put hqb HN.out.1 HN.out.2.1 _ _
   have N4:Hid (V3 u4 hb 98 (.int .i64 (8+sz)) (.bool false) (.bool false)):=by rw[<-hu4];exact hq_set N3.out 0 _
   rw[hu4]
   clear hu4 D5 N3 c0 c1 c2 cf cl
   go_wp2_with fail
   refine(l1Once_any p ao n cap 2 _ (by omega) D6.out.K).mono ?_
   rintro e u5⟨sc,rfl,f,c⟩
   have D7:Hid (DS w p ao n cap r q vH hs (.slice none 0 0) [] u5):=D6.out.fw f c
   have N5:Hid (V3 u5 hb 98 (.int .i64 (8+sz)) (.bool false) (.bool false)):=hq_fwU N4.out f HN.out.2.2
   clear f c D6 N4
   obtain⟨c0,c1,c2⟩:=N5.out.cells
   have cf:=N5.out.free
   have cl:=N5.out.lt
   go_upto_region 9 with fail
   obtain⟨u6,hu6⟩:∃y,u5.setCell ⟨hb,1,none⟩ (.bool sc)=y:=⟨_,rfl⟩
   have D8:Hid (DS w p ao n cap r q vH hs (.slice none 0 0) [] u6):=by rw[<-hu6];exact D7.out.put hqb HN.out.1 HN.out.2.1 _ _
   have N6:Hid (V3 u6 hb 98 (.int .i64 (8+sz)) (.bool sc) (.bool false)):=by rw[<-hu6];exact hq_set N5.out 1 _
   rw[hu6]
   clear hu6 D7 N5 c0 c1 c2 cf cl
   go_wp2_with fail
   refine(l1Below_any p ao n cap 3 _ (by omega) D8.out.K).mono ?_
   rintro e u7⟨y,rfl,y0,y1,f,c⟩
   have D9:Hid (DS w p ao n cap r q vH hs (.slice none 0 0) [] u7):=D8.out.fw f c
   have N7:Hid (V3 u7 hb 98 (.int .i64 (8+sz)) (.bool sc) (.bool false)):=hq_fwU N6.out f HN.out.2.2
   clear f c D8 N6
   obtain⟨c0,c1,c2⟩:=N7.out.cells
   have cf:=N7.out.free
   have cl:=N7.out.lt
   obtain⟨wb,hwb⟩:∃b,decide (0<y)=b:=⟨_,rfl⟩
   go_upto_region 10 with fail
   obtain⟨u8,hu8⟩:∃y,u7.setCell ⟨hb,2,none⟩ (.bool wb)=y:=⟨_,rfl⟩
   have D10:Hid (DS w p ao n cap r q vH hs (.slice none 0 0) [] u8):=by rw[<-hu8];exact D9.out.put hqb HN.out.1 HN.out.2.1 _ _
   have N8:Hid (V3 u8 hb 98 (.int .i64 (8+sz)) (.bool sc) (.bool wb)):=by rw[<-hu8];exact hq_set N7.out 2 _
   try rw[hwb]
   rw[hu8]
   clear hu8 D9 N7 c0 c1 c2 cf cl hwb
   obtain⟨ha,hcp,hvH⟩:=row_slD D10.out.H
   subst hvH
   obtain⟨x0,x1,xf,xz⟩:=D10.out.cells
   obtain⟨c0,c1,c2⟩:=N8.out.cells
   have cl:=N8.out.lt
   have hBa:∀o,w.heap.size<=(u8.alloc o).heap.size:=fun o=>(D10.out.below ((Below.refl _ _).alloc (Nat.le_refl _) o)).F.size
   have HCN:Hid (∀j x,[Value.int .i64 (8+sz),.bool sc,.bool wb][j]?=some x->(u8.alloc (.cells #[.int .i64 (8+sz),.bool sc,.bool wb] 98)).cell? ((⟨u8.heap.size,0,none⟩:Addr).add j)=some x):=cells_newD u8 _ _
   have OA:Hid (∀o,(u8.alloc o).ownsRow w.heap.size 98 3 (.slice ha hs.length hcp) hs.length (hs.flatMap hcl)):=fun o=>(D10.out.below ((Below.refl _ _).alloc (Nat.le_refl _) o)).H
   have hln:hs.length<=4:=by omega
   go_wp2_with(first|(at_builtin;refine wpList_append_own_at _ rfl _ _ 23 rfl w.heap.size 98 iH _ 3 16 Tryz.underlying23 HIH.out.1 HIH.out.2.1 HIH.out.2.2.1 HIH.out.2.2.2 rfl (by decide) _ _ _ rfl (OA.out _) ⟨u8.heap.size,0,none⟩ 1 1 [Value.int .i64 (8+sz),.bool sc,.bool wb] rfl rfl HCN.out ?c2 ?c3 ?c4 (hBa _) ?_))
   case c2=>simp[Value.oneCell']
   case c3=>unfold maxLen;omega
   case c4=>omega
   intro v' u9 hown hgrow _ _
   obtain⟨ua,hua,ba⟩:∃y,u8.alloc (.cells #[.int .i64 (8+sz),.bool sc,.bool wb] 98)=y/\Below u8.heap.size u8 y:=⟨_,rfl,(Below.refl _ _).alloc (Nat.le_refl _) _⟩
   rw[hua]at hgrow
   have D11:Hid (DS w p ao n cap r q v' (hs++[⟨8+sz,sc,wb⟩]) (.slice none 0 0) [] (u9.setCell ⟨q,0,none⟩ v')):=(D10.out.below ba).growH (x:=⟨8+sz,sc,wb⟩) hgrow hown
   have hx9:=grown_objU (D10.out.below ba).X hgrow (grown_neU (D10.out.below ba).X (D10.out.below ba).H (by decide))
   have z0:=(hq_cell hx9 0).trans rfl
   have zf:=hq_free hx9
   have zl:=hq_lt hx9
   obtain⟨vb,vcp,rfl⟩:=row_slD hown
   clear hown hgrow ba hua hx9 D10 N8 x0 x1 xf xz c0 c1 c2 cl OA HCN hBa
   go_wp2_with fail
   go_roundw
   case rel=>exact⟨_,hs++[⟨8+sz,sc,wb⟩],by simp,by simp;omega,(fun h hh=>by
    rcases List.mem_append.1 hh with hh|hh
    ·exact HHS.out h hh
    ·obtain rfl:=List.mem_singleton.1 hh
     exact⟨by show 8<=8+sz;omega,by show 8+sz<=47;omega⟩),D11.out⟩
   case measure=>simp[intOf];omega
  ·have hm:hs.length=m:=by omega
   have hend:¬(hs.length:Int)<(m:Int):=by omega
   have HM:Hid (hs.length=m):=hm
   clear hm
   obtain⟨bH,cH,rfl⟩:=row_some' D3.out.H (by omega)
   go_wp2_with fail
   go_loopw [7](fun iv wr=>∃(vR:Value)(vs:List VV),iv=.int .i64 (vs.length:Int)/\vs.length<=8/\Hid (∀v∈vs,GV v m)/\DS w p ao n cap r q (.slice (some ⟨bH,0,none⟩) hs.length cH) hs vR vs wr)(fun iv _=>8-(intOf iv).toNat)
   case atStart=>exact⟨_,[],rfl,by simp,fun h hh=>(by cases hh),D3.out⟩
   case round=>
    clear D3
    obtain⟨vR,vs,rfl,hle8,HVS,hx⟩:=hrel
    have D4:Hid (DS w p ao n cap r q (.slice (some ⟨bH,0,none⟩) hs.length cH) hs vR vs wr):=hx
    clear hx
    by_cases hlt8:vs.length<8
    rotate_left
    ·have h8:vs.length=8:=by omega
     have hend8:¬(vs.length:Int)<8:=by omega
     obtain⟨bR,cR,rfl⟩:=row_some' D4.out.R (by omega)
     rw[h8]at D4
     obtain⟨x0,x1,xf,xz⟩:=D4.out.cells
     have z0:=(hq_cell D4.out.Z 0).trans rfl
     have z1:=(hq_cell D4.out.Z 1).trans rfl
     have zf:=hq_free D4.out.Z
     have zl:=hq_lt D4.out.Z
     have hne:r≠q:=by have:=D4.out.rq;omega
     have hH:bH≠r:=fun e=>grown_neU D4.out.Z D4.out.H (by decide) (by rw[e];rfl)
     have hR:bR≠r:=fun e=>grown_neU D4.out.Z D4.out.R (by decide) (by rw[e];rfl)
     have RR:wr.ownsRow w.heap.size 62 6 (.slice (some ⟨bR,0,none⟩) 8 cR) 8 (vs.flatMap vcl):=by have k:=D4.out.R;rwa [h8]at k
     have SC:Hid (SigCp wr bH hs.length (fun i=>hs.getD i hs0) bR 8 (fun i=>vs.getD i zV)):=⟨⟨(D4.out.H.lt _ rfl).2,fun i=>D4.out.H.frozenAt i,fun i hi=>by rw[D4.out.H.cellAt i hi];exact hcl_get hs i hi⟩,⟨(RR.lt _ rfl).2,fun i=>RR.frozenAt i,fun i hi=>by
      have h8':i<vs.length*6:=by omega
      rw[RR.cellAt i (by omega)];exact vcl_get vs i h8'⟩⟩
     have OK:Hid (sigOK hs.length (fun i=>hs.getD i hs0) 8 (fun i=>vs.getD i zV)=true):=(by
      unfold sigOK goodAll
      simp only[Bool.and_eq_true,decide_eq_true_eq,List.all_eq_true,List.mem_range]
      refine⟨⟨by omega,fun i hi=>?_⟩,trivial,fun i hi=>?_⟩
      ·unfold sigAt
       have:=HHS.out (hs.getD i hs0) (by rw[List.getD_eq_getElem?_getD,List.getElem?_eq_getElem hi];simp)
       simp only[decide_eq_true_eq]
       omega
      ·rw[HM.out]
       exact gv.2 (HVS.out (vs.getD i zV) (by rw[List.getD_eq_getElem?_getD,List.getElem?_eq_getElem (by omega)];simp)):sigOK hs.length (fun i=>hs.getD i hs0) 8 (fun i=>vs.getD i zV)=true)
     have GE:Hid (w.heap.size<=bH/\w.heap.size<=bR/\Fw p w ((wr.setCell ⟨r,0,none⟩ (.slice (some ⟨bH,0,none⟩) hs.length cH)).setCell ⟨r,1,none⟩ (.slice (some ⟨bR,0,none⟩) 8 cR))/\Cur ((wr.setCell ⟨r,0,none⟩ (.slice (some ⟨bH,0,none⟩) hs.length cH)).setCell ⟨r,1,none⟩ (.slice (some ⟨bR,0,none⟩) 8 cR)) p ao n cap):=⟨(D4.out.H.lt _ rfl).1,(RR.lt _ rfl).1,(D4.out.F.put D4.out.wr _ _).put D4.out.wr _ _,(D4.out.K.put (by have:=D4.out.pw;have:=D4.out.wr;omega) _ _).put (by have:=D4.out.pw;have:=D4.out.wr;omega) _ _⟩
     have RC:Hid (8<=cR/\bH≠bR):=⟨row_capF RR,fun e=>own_ne D4.out.H RR (by decide) bH rfl (by rw[e];rfl)⟩
     clear D4 HVS HHS RR
     go_wp2_with fail
     refine bodyPost_ret (v:=.agg #[.slice (some ⟨bH,0,none⟩) hs.length cH,.slice (some ⟨bR,0,none⟩) 8 cR]) (by simp[results,Tryz.results13,go_sem, *]) rfl ⟨bH,cH,hs.length,_,bR,cR,_,rfl,by omega,by omega,⟨(SC.out.h.other (a:=⟨r,0,none⟩) (fun e=>hH e.symm) _).other (a:=⟨r,1,none⟩) (fun e=>hH e.symm) _,(SC.out.r.other (a:=⟨r,0,none⟩) (fun e=>hR e.symm) _).other (a:=⟨r,1,none⟩) (fun e=>hR e.symm) _⟩,OK.out,GE.out.1,GE.out.2.1,GE.out.2.2.1,GE.out.2.2.2,RC.out⟩
    have hlt8':(vs.length:Int)<8:=by omega
    go_wp2_with fail
    refine(l4DrawNum_any p ao n cap _ D4.out.K).mono ?_
    rintro e u2⟨x,rfl,hxn,f,c⟩
    have D5:Hid (DS w p ao n cap r q (.slice (some ⟨bH,0,none⟩) hs.length cH) hs vR vs u2):=D4.out.fw f c
    have GX:Hid (GV x m):=gv_NumV hxn
    clear f c D4 hxn
    unfold VV.v
    go_upto_region 15 with fail
    obtain⟨u3,hu3,b3⟩:∃y,u2.alloc (.cells #[.int .i64 x.k,.bool x.s,.int .i64 x.m,.int .i64 x.h,.int .i64 x.lo,.int .i64 x.hi] 62)=y/\Below u2.heap.size u2 y:=⟨_,rfl,(Below.refl _ _).alloc (Nat.le_refl _) _⟩
    have n3:VB (u2.alloc (.cells #[.int .i64 x.k,.bool x.s,.int .i64 x.m,.int .i64 x.h,.int .i64 x.lo,.int .i64 x.hi] 62)) u2.heap.size x:=hq_new _ _
    rw[hu3]at n3⊢
    have D6:Hid (DS w p ao n cap r q (.slice (some ⟨bH,0,none⟩) hs.length cH) hs vR vs u3):=D5.out.below b3
    have hqb:q<u2.heap.size:=D5.out.cells.2.2.2
    have hnH:(Value.slice (some ⟨bH,0,none⟩) hs.length cH).ownBlock≠some u2.heap.size:=fun e=>by have:=own_lt D5.out.H e;omega
    have hnR:vR.ownBlock≠some u2.heap.size:=fun e=>by have:=own_lt D5.out.R e;omega
    have hpb:p≠u2.heap.size:=by have:=D5.out.K.lt;omega
    obtain⟨vb,hvb⟩:∃y,u2.heap.size=y:=⟨_,rfl⟩
    rw[hvb]at n3 hqb hnH hnR hpb⊢
    have N3:Hid (VB u3 vb x):=n3
    have HN:Hid ((Value.slice (some ⟨bH,0,none⟩) hs.length cH).ownBlock≠some vb/\vR.ownBlock≠some vb/\p≠vb):=⟨hnH,hnR,hpb⟩
    clear hu3 b3 n3 hvb hnH hnR hpb D5
    go_cut [48](fun s48 wx=>∃zz:Bool,s48=.bool zz/\DS w p ao n cap r q (.slice (some ⟨bH,0,none⟩) hs.length cH) hs vR vs wx/\VB wx vb x)
    case first=>
     by_cases h4:vs.length<4
     ·have e1:decide ((vs.length:Int)<4)=true:=by simp;omega
      go_wp2_with fail
      refine(l1Below_any p ao n cap 4 _ (by omega) D6.out.K).mono ?_
      rintro e u4⟨y,rfl,y0,y1,f,c⟩
      have D7:Hid (DS w p ao n cap r q (.slice (some ⟨bH,0,none⟩) hs.length cH) hs vR vs u4):=D6.out.fw f c
      have N4:Hid (VB u4 vb x):=hq_fwU N3.out f HN.out.2.2
      clear f c
      go_wp2_with fail
      go_meet
      exact⟨_,rfl,D7.out,N4.out⟩
     ·have e1:decide ((vs.length:Int)<4)=false:=by simp;omega
      go_wp2_with fail
      go_meet
      exact⟨_,rfl,D6.out,N3.out⟩
    case rest=>
    obtain⟨zz,rfl,d7,n7⟩:=hcut
    have D7:Hid (DS w p ao n cap r q (.slice (some ⟨bH,0,none⟩) hs.length cH) hs vR vs wc):=d7
    have N7:Hid (VB wc vb x):=n7
    clear d7 n7 D6 N3
    generalize wc=u4 at D7 N7⊢
    go_upto_if 48 with fail
    go_cut [8](fun s8 wx=>s8=.pointer (some ⟨vb,0,none⟩)/\∃x':VV,GV x' m/\DS w p ao n cap r q (.slice (some ⟨bH,0,none⟩) hs.length cH) hs vR vs wx/\VB wx vb x')
    case first=>
     cases zz with
     |false=>
      go_wp2_with fail
      go_meet
      exact⟨rfl,x,GX.out,D7.out,N7.out⟩
     |true=>
      go_wp2_with fail
      refine(l4DrawPtr_any p ao n cap (m:Int) _ (by omega) D7.out.K).mono ?_
      rintro e u5⟨x',rfl,hxp,f,c⟩
      have D8:Hid (DS w p ao n cap r q (.slice (some ⟨bH,0,none⟩) hs.length cH) hs vR vs u5):=D7.out.fw f c
      have N8:Hid (VB u5 vb x):=hq_fwU N7.out f HN.out.2.2
      have PX:Hid (PtrV x' m):=hxp
      clear f c D7 N7 hxp GX
      unfold VV.v
      obtain⟨c0,c1,c2,c3,c4,c5,cf,cl⟩:=N8.out.cells
      go_upto_region 17 with fail
      obtain⟨u6,hu6,d9,n9⟩:∃y,set6 u5 vb (.int .i64 x'.k) (.bool x'.s) (.int .i64 x'.m) (.int .i64 x'.h) (.int .i64 x'.lo) (.int .i64 x'.hi)=y/\DS w p ao n cap r q (.slice (some ⟨bH,0,none⟩) hs.length cH) hs vR vs y/\VB y vb x':=⟨_,rfl,D8.out.put6 hqb HN.out.1 HN.out.2.1 _ _ _ _ _ _,hq_set6 N8.out _ _ _ _ _ _⟩
      unfold set6 at hu6
      rw[hu6]
      have D9:Hid (DS w p ao n cap r q (.slice (some ⟨bH,0,none⟩) hs.length cH) hs vR vs u6):=d9
      have N9:Hid (VB u6 vb x'):=n9
      clear hu6 d9 n9 D8 N8 c0 c1 c2 c3 c4 c5 cf cl
      go_cut [59](fun s59 wx=>∃zz:Bool,s59=.bool zz/\(zz=true->vs.length<m)/\DS w p ao n cap r q (.slice (some ⟨bH,0,none⟩) hs.length cH) hs vR vs wx/\VB wx vb x')
      case first=>
       by_cases h4:vs.length<m
       ·have e1:decide ((vs.length:Int)<(m:Int))=true:=by simp;omega
        go_wp2_with fail
        refine(l1Below_any p ao n cap 3 _ (by omega) D9.out.K).mono ?_
        rintro e u7⟨y,rfl,y0,y1,f,c⟩
        have D10:Hid (DS w p ao n cap r q (.slice (some ⟨bH,0,none⟩) hs.length cH) hs vR vs u7):=D9.out.fw f c
        have N10:Hid (VB u7 vb x'):=hq_fwU N9.out f HN.out.2.2
        clear f c
        go_wp2_with fail
        go_meet
        exact⟨_,rfl,fun _=>h4,D10.out,N10.out⟩
       ·have e1:decide ((vs.length:Int)<(m:Int))=false:=by simp;omega
        go_wp2_with fail
        go_meet
        exact⟨_,rfl,(by intro e;cases e),D9.out,N9.out⟩
      case rest=>
      obtain⟨zz,rfl,hzz,d10,n10⟩:=hcut
      have D10:Hid (DS w p ao n cap r q (.slice (some ⟨bH,0,none⟩) hs.length cH) hs vR vs wc):=d10
      have N10:Hid (VB wc vb x'):=n10
      clear d10 n10 D9 N9
      generalize wc=u7 at D10 N10⊢
      cases zz with
      |false=>
       go_wp2_with fail
       go_meet
       exact⟨rfl,x',gv_PtrV PX.out,D10.out,N10.out⟩
      |true=>
       have h4:=hzz rfl
       clear hzz
       obtain⟨c0,c1,c2,c3,c4,c5,cf,cl⟩:=N10.out.cells
       go_wp2_with fail
       go_meet
       refine⟨rfl,{x' with h:=(vs.length:Int)},Or.inr ?_,D10.out.put hqb HN.out.1 HN.out.2.1 _ _,hq_set N10.out 3 _⟩
       have:=PX.out
       unfold PtrV at this
       exact⟨this.1,this.2.1,this.2.2.1,by show(0:Int)<=vs.length;omega,by show(vs.length:Int)<m;omega,this.2.2.2.2.2⟩
    case rest=>
    obtain⟨rfl,x',gx,d8,n8⟩:=hcut
    have D8:Hid (DS w p ao n cap r q (.slice (some ⟨bH,0,none⟩) hs.length cH) hs vR vs wc):=d8
    have N8:Hid (VB wc vb x'):=n8
    have GX':Hid (GV x' m):=gx
    clear d8 n8 D7 N7 gx GX
    generalize wc=u5 at D8 N8⊢
    obtain⟨ra,rcp,hvR⟩:=row_slD D8.out.R
    subst hvR
    obtain⟨x0,x1,xf,xz⟩:=D8.out.cells
    obtain⟨c0,c1,c2,c3,c4,c5,cf,cl⟩:=N8.out.cells
    have hBa:∀o,w.heap.size<=(u5.alloc o).heap.size:=fun o=>(D8.out.below ((Below.refl _ _).alloc (Nat.le_refl _) o)).F.size
    have HCN:Hid (∀j y,(vcl x')[j]?=some y->(u5.alloc (.cells #[.int .i64 x'.k,.bool x'.s,.int .i64 x'.m,.int .i64 x'.h,.int .i64 x'.lo,.int .i64 x'.hi] 62)).cell? ((⟨u5.heap.size,0,none⟩:Addr).add j)=some y):=cells_newD u5 _ _
    have OA:Hid (∀o,(u5.alloc o).ownsRow w.heap.size 62 6 (.slice ra vs.length rcp) vs.length (vs.flatMap vcl)):=fun o=>(D8.out.below ((Below.refl _ _).alloc (Nat.le_refl _) o)).R
    go_wp2_with(first|(at_builtin;refine wpList_append_own_at _ rfl _ _ 24 rfl w.heap.size 62 iV _ 6 48 Tryz.underlying24 HIV.out.1 HIV.out.2.1 HIV.out.2.2.1 HIV.out.2.2.2 rfl (by decide) _ _ _ rfl (OA.out _) ⟨u5.heap.size,0,none⟩ 1 1 (vcl x') rfl rfl HCN.out ?c2 ?c3 ?c4 (hBa _) ?_))
    case c2=>simp[vcl,Value.oneCell']
    case c3=>unfold maxLen;omega
    case c4=>omega
    intro v' u9 hown hgrow _ _
    obtain⟨ua,hua,ba⟩:∃y,u5.alloc (.cells #[.int .i64 x'.k,.bool x'.s,.int .i64 x'.m,.int .i64 x'.h,.int .i64 x'.lo,.int .i64 x'.hi] 62)=y/\Below u5.heap.size u5 y:=⟨_,rfl,(Below.refl _ _).alloc (Nat.le_refl _) _⟩
    rw[hua]at hgrow
    have D11:Hid (DS w p ao n cap r q (.slice (some ⟨bH,0,none⟩) hs.length cH) hs v' (vs++[x']) (u9.setCell ⟨q,1,none⟩ v')):=(D8.out.below ba).growR (x:=x') hgrow hown
    have hx9:=grown_objU (D8.out.below ba).X hgrow (grown_neU (D8.out.below ba).X (D8.out.below ba).R (by decide))
    have z0:=(hq_cell hx9 1).trans rfl
    have zf:=hq_free hx9
    have zl:=hq_lt hx9
    obtain⟨vb2,vcp,rfl⟩:=row_slD hown
    clear hown hgrow ba hua hx9 D8 N8 x0 x1 xf xz c0 c1 c2 c3 c4 c5 cf cl OA HCN hBa
    go_wp2_with fail
    go_roundw
    case rel=>exact⟨_,vs++[x'],by simp,by simp;omega,(fun h hh=>by
     rcases List.mem_append.1 hh with hh|hh
     ·exact HVS.out h hh
     ·obtain rfl:=List.mem_singleton.1 hh
      exact GX'.out),D11.out⟩
    case measure=>simp[intOf];omega
structure MX(w:World)(p:Nat)(ao:Option Addr)(n cap:Nat)(bA cA:Nat)(V:Nat->VV)(z c:Int)(bb r q:Nat)(x:IV)(u:World):Prop where
 I:IW w p ao n cap r q x u
 A:V3 u bb 28 (.slice (some ⟨bA,0,none⟩) 8 cA) (.int .i64 z) (.int .i64 c)
 G:Arr u bA (8*6) (vF V)
 o1:w.heap.size=bb
 o2:bb<r
 o3:r<q
 o4:bA<w.heap.size
 o5:bA≠p
section
variable{w:World}{p:Nat}{ao:Option Addr}{n cap:Nat}{bA cA:Nat}{V:Nat->VV}{z c:Int}{bb r q:Nat}{x:IV}{u u':World}
theorem MX.fw(h:MX w p ao n cap bA cA V z c bb r q x u)(f:Fw p u u')(k:Cur u' p ao n cap):MX w p ao n cap bA cA V z c bb r q x u':=
 ⟨h.I.fw f k,hq_fwU h.A f (by have:=h.I.pw;have:=h.o1;omega),f.arr h.G h.o5,h.o1,h.o2,h.o3,h.o4,h.o5⟩
theorem MX.below(h:MX w p ao n cap bA cA V z c bb r q x u)(f:Below u.heap.size u u'):MX w p ao n cap bA cA V z c bb r q x u':=h.fw (.of_below f) (h.I.K.below f)
theorem MX.set(h:MX w p ao n cap bA cA V z c bb r q x u){y:IV}{j:Nat}{v:Value}(hi:IW w p ao n cap r q y (u.setCell ⟨q,j,none⟩ v)):MX w p ao n cap bA cA V z c bb r q y (u.setCell ⟨q,j,none⟩ v):=by
 have o1:=h.o1;have o2:=h.o2;have o3:=h.o3;have o4:=h.o4;exact⟨hi,h.A.put (by omega) _ _,h.G.other (by show q≠bA;omega) _,o1,o2,o3,o4,h.o5⟩
theorem MX.acells(h:MX w p ao n cap bA cA V z c bb r q x u):u.cell? ⟨bb,0,none⟩=some (.slice (some ⟨bA,0,none⟩) 8 cA)/\bb<u.heap.size/\bA<u.heap.size:=⟨h.A.cells.1,h.A.lt,h.G.lt⟩
end
theorem l4DrawMemory_any(p:Nat)(ao:Option Addr)(n cap:Nat)(bA cA:Nat)(V:Nat->VV)(z c:Int)(w:World)(hc:Cur w p ao n cap)(hA:Arr w bA (8*6) (vF V))(hp:bA≠p):
 Calls Tryz.prog 17 #[.pointer (some ⟨p,0,none⟩),.agg #[.slice (some ⟨bA,0,none⟩) 8 cA,.int .i64 z,.int .i64 c]] w fun e w'=>∃x:IV,e=.returned (.agg x.c)/\Fw p w w'/\Cur w' p ao n cap:=by
 have HC:Hid (Cur w p ao n cap):=hc;have HA:Hid (Arr w bA (8*6) (vF V)):=hA;have lp:=hc.lt;have lA:=hA.lt;clear hc hA;go_enter Tryz.func17,Tryz.ntmps17;go_wp2_with fail;obtain⟨u0,hu0,b0,pa,pr⟩:∃y,(w.alloc (.cells #[.slice (some ⟨bA,0,none⟩) 8 cA,.int .i64 z,.int .i64 c] 28)).alloc (.cells #[.int .i64 0,.int .i64 0,.int .i64 0,.int .i64 0,.int .i64 0,.int .i64 0] 30)=y/\Below w.heap.size w y/\V3 y w.heap.size 28 (.slice (some ⟨bA,0,none⟩) 8 cA) (.int .i64 z) (.int .i64 c)/\Ib y (w.heap.size+1) ⟨0,0,0,0,0,0⟩:=by
  have e1:(w.alloc (.cells #[.slice (some ⟨bA,0,none⟩) 8 cA,.int .i64 z,.int .i64 c] 28)).heap.size=w.heap.size+1:=by simp
  refine⟨_,rfl,((Below.refl _ _).alloc (Nat.le_refl _) _).alloc (by simp) _,(V3.new _ _ _ _ _).below ((Below.refl _ _).alloc (Nat.le_refl _) _),?_⟩;rw[<-e1];exact hq_new _ _
 rw[hu0];refine(l1DrawIns_any p ao n cap 21 28 _ (by omega) (by omega) (by omega) (HC.out.below b0)).mono ?_;rintro e u1⟨x,rfl,hxb,f,k⟩;have B1:Hid (Fw p w u1):=(Fw.of_below b0).trans f;have PA:Hid (V3 u1 w.heap.size 28 (.slice (some ⟨bA,0,none⟩) 8 cA) (.int .i64 z) (.int .i64 c)):=hq_fwU pa f (by omega);have PR:Hid (Ib u1 (w.heap.size+1) ⟨0,0,0,0,0,0⟩):=pr.fw f (by omega);have GA:Hid (Arr u1 bA (8*6) (vF V)):=f.arr (HA.out.below b0 lA) hp;have K1:Hid (Cur u1 p ao n cap):=k;have HXB:Hid (0<=x.b/\x.b<=7):=hxb;clear hu0 b0 pa pr f k hxb HC HA;unfold IV.c;go_upto_region 2 with fail;obtain⟨u2,hu2,m2⟩:∃y,u1.alloc (.cells #[.int .i64 x.o,.int .i64 x.d,.int .i64 x.a,.int .i64 x.b,.int .i64 x.i,.int .i64 x.h] 30)=y/\MX w p ao n cap bA cA V z c w.heap.size (w.heap.size+1) u1.heap.size x y:=by
  have bn:Below u1.heap.size u1 (u1.alloc (.cells #[.int .i64 x.o,.int .i64 x.d,.int .i64 x.a,.int .i64 x.b,.int .i64 x.i,.int .i64 x.h] 30)):=(Below.refl _ _).alloc (Nat.le_refl _) _;have lr:=PR.out.lt;exact⟨_,rfl,⟨B1.out.trans (.of_below bn),K1.out.below bn,PR.out.below bn,hq_new _ _,lp,by omega,by omega,by omega,HXB.out⟩,PA.out.below bn,GA.out.below bn GA.out.lt,rfl,by omega,by omega,lA,hp⟩
 rw[hu2];obtain⟨bb,hbb⟩:∃y,w.heap.size=y:=⟨_,rfl⟩
 obtain⟨r,hr⟩:∃y,w.heap.size+1=y:=⟨_,rfl⟩
 obtain⟨q,hq⟩:∃y,u1.heap.size=y:=⟨_,rfl⟩
 have M2:Hid (MX w p ao n cap bA cA V z c bb r q x u2):=by rw[<-hbb,<-hr,<-hq];exact m2
 rw[hq,hr,hbb];clear hu2 m2 hbb hr hq B1 PA PR GA K1 HXB lA;go_wp2_with fail;refine(l1Reg_any p ao n cap _ M2.out.I.K).mono ?_;rintro e u3⟨y,rfl,y0,y8,f,k⟩;have M3:Hid (MX w p ao n cap bA cA V z c bb r q x u3):=M2.out.fw f k;clear f k M2;go_upto_block 0 with fail;go_cut [6](fun s6 wx=>∃j:Nat,s6=.int .i64 (j:Int)/\j<8/\MX w p ao n cap bA cA V z c bb r q x wx)
 case first=>
  go_wp2_with fail;go_loopw [6,7](fun rv kv wr=>∃(k j:Nat),rv=.int .i64 (j:Int)/\kv=.int .i64 (k:Int)/\k<=8/\j<8/\MX w p ao n cap bA cA V z c bb r q x wr)(fun _ kv _=>8-(intOf kv).toNat)
  case atStart=>exact⟨0,y.toNat,by rw[show(y.toNat:Int)=y by omega],rfl,by omega,by omega,M3.out⟩
  case round=>
   clear M3;obtain⟨k,j,rfl,rfl,hk,hj,mx⟩:=hrel;have M4:Hid (MX w p ao n cap bA cA V z c bb r q x wr):=mx;clear mx;by_cases hk8:k<8
   rotate_left
   ·have e1:decide ((k:Int)<8)=false:=by simp;omega
    go_wp2_with fail;go_meet;exact⟨j,rfl,hj,M4.out⟩
   have e1:decide ((k:Int)<8)=true:=by simp;omega
   obtain⟨a0,al,gl⟩:=M4.out.acells;obtain⟨g0,_,_,_,_,_⟩:=v_at M4.out.G hj;have hj8:(j:Int)<8:=by omega
   by_cases hk1:(V j).k=1
   ·have e2:((V j).k !=1)=false:=by simp[hk1]
    have HK1:Hid ((V j).k=1):=hk1;clear hk1;go_wp2_with fail;go_meet;exact⟨j,rfl,hj,M4.out⟩
   ·have e2:((V j).k !=1)=true:=by simp[hk1]
    go_wp2_with fail;go_roundw
    case rel=>exact⟨k+1,(j+1)%8,by congr 1,by go_num,by omega,by omega,M4.out⟩
    case measure=>simp[intOf];omega
 case rest=>
 clear M3 y0 y8;obtain⟨j,rfl,hj,mx⟩:=hcut;have M4:Hid (MX w p ao n cap bA cA V z c bb r q x wc):=mx;clear mx;generalize wc=u4 at M4⊢;obtain⟨a0,al,gl⟩:=M4.out.acells;obtain⟨_,_,_,g3,_,_⟩:=v_at M4.out.G hj;have hj8:(j:Int)<8:=by omega
 obtain⟨c0,c1,c2,c3,c4,c5,cf,cl⟩:=M4.out.I.X.cells;have hqb:q≠bb:=by have:=M4.out.o2;have:=M4.out.o3;omega
 have hqA:q≠bA:=by have:=M4.out.o1;have:=M4.out.o2;have:=M4.out.o3;have:=M4.out.o4;omega
 go_upto_region 9 with fail;obtain⟨u5,hu5,m5⟩:∃y,(u4.setCell ⟨q,2,none⟩ (.int .i64 (j:Int))).setCell ⟨q,5,none⟩ (.int .i64 (V j).h)=y/\MX w p ao n cap bA cA V z c bb r q {x with a:=(j:Int),h:=(V j).h} y:=⟨_,rfl,by
  have s1:=M4.out.set (M4.out.I.setA (j:Int));exact s1.set (s1.I.setH (V j).h)⟩
 rw[hu5];obtain⟨x5,hx5⟩:∃y:IV,{x with a:=(j:Int),h:=(V j).h}=y:=⟨_,rfl⟩
 rw[hx5]at m5;have M5:Hid (MX w p ao n cap bA cA V z c bb r q x5 u5):=m5;clear hu5 m5 hx5 M4 a0 al gl g3 c0 c1 c2 c3 c4 c5 cf cl;obtain⟨c0,c1,c2,c3,c4,c5,cf,cl⟩:=M5.out.I.X.cells;go_upto_if 40 with fail;go_cut [5](fun s5 wx=>s5=.pointer (some ⟨q,0,none⟩)/\∃x6,MX w p ao n cap bA cA V z c bb r q x6 wx)
 case first=>
  by_cases ho:x5.o<25
  ·go_wp2_with fail
   refine(l1Below_any p ao n cap 12 _ (by omega) M5.out.I.K).mono ?_;rintro e u6⟨i,rfl,i0,i1,f,k⟩;have M6:Hid (MX w p ao n cap bA cA V z c bb r q x5 u6):=M5.out.fw f k;clear f k c0 c1 c2 c3 c4 c5 cf cl;obtain⟨c0,c1,c2,c3,c4,c5,cf,cl⟩:=M6.out.I.X.cells;go_wp2_with fail;go_meet;exact⟨rfl,_,M6.out.set (M6.out.I.setI i)⟩
  ·go_wp2_with fail
   go_meet;exact⟨rfl,_,M5.out⟩
 case rest=>
 clear M5 c0 c1 c2 c3 c4 c5 cf cl;obtain⟨rfl,x6,mx⟩:=hcut;have M6:Hid (MX w p ao n cap bA cA V z c bb r q x6 wc):=mx;clear mx;generalize wc=u6 at M6⊢;obtain⟨c0,c1,c2,c3,c4,c5,cf,cl⟩:=M6.out.I.X.cells;go_upto_if 46 with fail;go_cut [5](fun s5 wx=>s5=.pointer (some ⟨q,0,none⟩)/\∃x6,MX w p ao n cap bA cA V z c bb r q x6 wx)
 case first=>
  by_cases ho:25<=x6.o
  rotate_left
  ·go_wp2_with fail
   go_meet;exact⟨rfl,_,M6.out⟩
  rw[show decide (25<=x6.o)=true from decide_eq_true ho];clear ho;go_wp2_with fail;clear c0 c1 c2 c3 c4 c5 cf cl;go_loopw [8](fun kv wr=>∃(k:Nat)(x7:IV),kv=.int .i64 (k:Int)/\k<=8/\MX w p ao n cap bA cA V z c bb r q x7 wr)(fun kv _=>8-(intOf kv).toNat)
  case atStart=>exact⟨0,x6,rfl,by omega,M6.out⟩
  case round=>
   clear M6;obtain⟨k,x7,rfl,hk,mx⟩:=hrel;have M7:Hid (MX w p ao n cap bA cA V z c bb r q x7 wr):=mx;clear mx;by_cases hk8:k<8
   rotate_left
   ·have e1:decide ((k:Int)<8)=false:=by simp;omega
    go_wp2_with fail;go_meet;exact⟨rfl,_,M7.out⟩
   have e1:decide ((k:Int)<8)=true:=by simp;omega
   obtain⟨jb,hjb,hjb8⟩:∃jb:Nat,x7.b=(jb:Int)/\jb<8:=⟨x7.b.toNat,by have:=M7.out.I.rb;omega,by have:=M7.out.I.rb;omega⟩
   obtain⟨a0,al,gl⟩:=M7.out.acells;obtain⟨c0,c1,c2,c3,c4,c5,cf,cl⟩:=M7.out.I.X.cells;obtain⟨g0,g1,g2,g3,g4,g5⟩:=v_at M7.out.G hjb8;rw[hjb]at c3;have HJB:Hid (x7.b=(jb:Int)):=hjb;have hj8:(jb:Int)<8:=by omega
   clear hjb;go_wp2_with fail;refine(l4Max_any _ _ _ _ _ _ _).mono ?_;rintro e y8⟨rfl,hb⟩;have M8:Hid (MX w p ao n cap bA cA V z c bb r q x7 y8):=M7.out.below hb;clear hb M7 a0 al gl c0 c1 c2 c3 c4 c5 cf cl g0 g1 g2 g3 g4 g5;obtain⟨mx,hmx⟩:∃y:Int,maxV ⟨(V jb).k,(V jb).s,(V jb).m,(V jb).h,(V jb).lo,(V jb).hi⟩=y:=⟨_,rfl⟩
   rw[hmx];clear hmx;obtain⟨a0,al,gl⟩:=M8.out.acells;obtain⟨c0,c1,c2,c3,c4,c5,cf,cl⟩:=M8.out.I.X.cells;obtain⟨g0,g1,g2,g3,g4,g5⟩:=v_at M8.out.G hjb8;rw[HJB.out]at c3;have GO:Hid (MX w p ao n cap bA cA V z c bb r q {x7 with b:=((jb+1)%8:Nat)} (y8.setCell ⟨q,3,none⟩ (.int .i64 ((jb+1)%8:Nat)))):=M8.out.set (M8.out.I.setB _ ⟨by omega,by omega⟩);obtain⟨jm,hjm⟩:∃y:Nat,(jb+1)%8=y:=⟨_,rfl⟩
   rw[hjm]at GO;have HM2:Hid (((jb:Int)+1)%8=(jm:Int)):=(by omega:((jb:Int)+1)%8=(jm:Int))
   clear hjm;obtain⟨sc,hsc⟩:∃b,(V jb).s=b:=⟨_,rfl⟩
   rw[hsc]at g1;have M9:Hid (MX w p ao n cap bA cA V z c bb r q x7 y8):=M8.out;clear M8 hsc;by_cases hm:mx<0
   ·have e2:decide (mx<0)=true:=by simp;omega
    go_wp2_with fail;go_roundw
    case rel=>exact⟨k+1,{x7 with b:=((jb:Int)+1)%8},by go_num,by omega,by rw[HM2.out];exact GO.out⟩
    case measure=>simp[intOf];omega
   ·have e2:decide (mx<0)=false:=by simp;omega
    cases sc with
    |true=>
     go_wp2_with fail;go_roundw
     case rel=>exact⟨k+1,{x7 with b:=((jb:Int)+1)%8},by go_num,by omega,by rw[HM2.out];exact GO.out⟩
     case measure=>simp[intOf];omega
    |false=>
     go_wp2_with fail;go_meet;exact⟨rfl,_,M9.out⟩
 case rest=>
 clear M6 c0 c1 c2 c3 c4 c5 cf cl;obtain⟨rfl,x8,mx⟩:=hcut;have M8:Hid (MX w p ao n cap bA cA V z c bb r q x8 wc):=mx;clear mx;generalize wc=y8 at M8⊢;go_wp2_with fail;refine(l1Once_any p ao n cap 12 _ (by omega) M8.out.I.K).mono ?_;rintro e u9⟨b,rfl,f,k⟩;have M9:Hid (MX w p ao n cap bA cA V z c bb r q x8 u9):=M8.out.fw f k;clear f k M8;go_upto_if 76 with fail;go_cut [5](fun s5 wx=>s5=.pointer (some ⟨q,0,none⟩)/\∃x6,MX w p ao n cap bA cA V z c bb r q x6 wx)
 case first=>
  cases b with
  |false=>
   go_wp2_with fail;go_meet;exact⟨rfl,_,M9.out⟩
  |true=>
   go_wp2_with fail;refine(l1Below_any p ao n cap 4 _ (by omega) M9.out.I.K).mono ?_;rintro e u10⟨i,rfl,i0,i1,f,k⟩;have M10:Hid (MX w p ao n cap bA cA V z c bb r q x8 u10):=M9.out.fw f k;clear f k;obtain⟨c0,c1,c2,c3,c4,c5,cf,cl⟩:=M10.out.I.X.cells;go_wp2_with fail;go_meet;exact⟨rfl,_,M10.out.set (M10.out.I.setH i)⟩
 case rest=>
 clear M9;obtain⟨rfl,x9,mx⟩:=hcut;have M10:Hid (MX w p ao n cap bA cA V z c bb r q x9 wc):=mx;clear mx;generalize wc=u10 at M10⊢;obtain⟨c0,c1,c2,c3,c4,c5,cf,cl⟩:=M10.out.I.X.cells;obtain⟨b0,b1,b2,b3,b4,b5,bf,bl⟩:=M10.out.I.R.cells;have FF:Hid (∀v0 v1 v2 v3 v4 v5,Fw p w ((((((u10.setCell ⟨r,0,none⟩ v0).setCell ⟨r,1,none⟩ v1).setCell ⟨r,2,none⟩ v2).setCell ⟨r,3,none⟩ v3).setCell ⟨r,4,none⟩ v4).setCell ⟨r,5,none⟩ v5)/\Cur ((((((u10.setCell ⟨r,0,none⟩ v0).setCell ⟨r,1,none⟩ v1).setCell ⟨r,2,none⟩ v2).setCell ⟨r,3,none⟩ v3).setCell ⟨r,4,none⟩ v4).setCell ⟨r,5,none⟩ v5) p ao n cap):=fun v0 v1 v2 v3 v4 v5=>by
  have hr:=M10.out.I.wr;have hp:p<r:=by omega
  exact⟨(((((M10.out.I.F.put hr _ _).put hr _ _).put hr _ _).put hr _ _).put hr _ _).put hr _ _,(((((M10.out.I.K.put hp _ _).put hp _ _).put hp _ _).put hp _ _).put hp _ _).put hp _ _⟩
 have hne:=M10.out.I.ne;clear M10;go_wp2_with fail;exact bodyPost_ret (v:=.agg x9.c) (by simp[results,Tryz.results17,go_sem,IV.c, *]) rfl ⟨⟨x9,rfl⟩,(FF.out _ _ _ _ _ _).1,(FF.out _ _ _ _ _ _).2⟩
end Go.Proofs.YtbahofiiaodpdaaGreat
