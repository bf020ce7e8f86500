import Derived.Test.YtcjnmdgomocpgaaGreatDoorOfSpecAny
set_option maxHeartbeats 4000000
set_option maxRecDepth 20000
namespace Go.Proofs.YtcjnmdgomocpgaaGreatDoor
open Go.RowKit
theorem Kept.row{w j:World}{l s n k Y:Nat}{d:List Value}(h:Kept w j)(b:w.ownsRow l 39 s (Vs k n Y) n d):j.ownsRow l 39 s (Vs k n Y) n d:=by
 obtain⟨a,c⟩:=gW b rfl;exact Ot b (h k a _ _ c Ad Ad Ad Ad)
section
variable{w:World}{base:Nat}{p:Pl}{M:MV}
theorem Rh(n:Mem w base p M)(u:M.st≠0)(s:Option Addr)(l k:Nat):
 Ks 46 #[.slice s l k,.agg #[Vs p.bR 8 p.cR,.bool M.z,.bool M.c,.bool M.hz,.bool M.hc,.slice p.aH M.nH p.cH,Vi M.pc,Vi M.st,.slice p.aO M.nO p.cO]] w (Bf base w M):=by
 have o:=hxy n;clear n;go_enter Tryz.func46,Tryz.ntmps46;go_upto_region 1 with fail;generalize a:(w.alloc (.cells #[Vs p.bR 8 p.cR,.bool M.z,.bool M.c,.bool M.hz,.bool M.hc,.slice p.aH M.nH p.cH,Vi M.pc,Vi M.st,.slice p.aO M.nO p.cO] 39)).alloc (.cells Zq 39)=b;have m:Bw w b:=by rw[<-a];exact(Ai).alloc AX _
 have J:b.heap.size=w.heap.size+2:=by rw[<-a];simp
 have d:b.ownsRow w.heap.size 39 9 (Vs w.heap.size 1 1) 1 [Vs p.bR 8 p.cR,.bool M.z,.bool M.c,.bool M.hz,.bool M.hc,.slice p.aH M.nH p.cH,Vi M.pc,Vi M.st,.slice p.aO M.nO p.cO]:=by rw[<-a];exact(World.ownsRow_lit w #[Vs p.bR 8 p.cR,.bool M.z,.bool M.c,.bool M.hz,.bool M.hc,.slice p.aH M.nH p.cH,Vi M.pc,Vi M.st,.slice p.aO M.nO p.cO] 1 BQ (by unfold maxLen;omega) rfl).alloc _
 have h:b.ownsRow w.heap.size 39 9 (.slice (some ⟨w.heap.size+1,0,none⟩) 1 1) 1 Zp:=by
  rw[<-a];have:=World.ownsRow_lit (base:=w.heap.size) (e:=39) (size:=9) (w.alloc (.cells #[Vs p.bR 8 p.cR,.bool M.z,.bool M.c,.bool M.hz,.bool M.hc,.slice p.aH M.nH p.cH,Vi M.pc,Vi M.st,.slice p.aO M.nO p.cO] 39)) Zq 1 AX (by unfold maxLen;omega) rfl;rw[World.size_alloc]at this;exact this
 have L:=Dl d;obtain⟨x,y,A,B,C,D,E,F,I⟩:=Dl h;have N:∀i,b.frozen? ⟨w.heap.size,i,none⟩=false:=fun i=>d.frozenAt i
 have O:∀i,b.frozen? ⟨w.heap.size+1,i,none⟩=false:=fun i=>h.frozenAt i
 have Q:w.heap.size<b.heap.size:=AB;have R:w.heap.size+1<b.heap.size:=AB;have K:w.heap.size+2<=b.heap.size:=AB;have j:=hxy m;have q:=hxy d;have r:=hxy h;clear a m d h J;go_wp2;refine mY (.agg #[Vs p.bR 8 p.cR,.bool M.z,.bool M.c,.bool M.hz,.bool M.hc,.slice p.aH M.nH p.cH,Vi M.pc,Vi M.st,.slice p.aO M.nO p.cO]) (by simp[results,Tryz.results46,go_sem,x,y,A,B,C,D,E,F,I]) ?_;refine Bf.stay o ?_;iterate 9 refine Below.setCell ?_ AX _
 exact j
theorem UA(u:Mem w base p M)(A:Option Addr)(d q:Nat)(B:(d:Int)<=M.pc):
 Ks 46 #[.slice A d q,.agg #[Vs p.bR 8 p.cR,.bool M.z,.bool M.c,.bool M.hz,.bool M.hc,.slice p.aH M.nH p.cH,Vi M.pc,Vi 0,.slice p.aO M.nO p.cO]] w (Bf base w M.fault):=by
 have x:=hxy u;clear u;go_enter Tryz.func46,Tryz.ntmps46;go_upto_region 1 with fail;generalize a:(w.alloc (.cells #[Vs p.bR 8 p.cR,.bool M.z,.bool M.c,.bool M.hz,.bool M.hc,.slice p.aH M.nH p.cH,Vi M.pc,Vi 0,.slice p.aO M.nO p.cO] 39)).alloc (.cells Zq 39)=b;have s:Bw w b:=by rw[<-a];exact(Ai).alloc AX _
 have U:b.heap.size=w.heap.size+2:=by rw[<-a];simp
 have h:b.ownsRow w.heap.size 39 9 (Vs w.heap.size 1 1) 1 [Vs p.bR 8 p.cR,.bool M.z,.bool M.c,.bool M.hz,.bool M.hc,.slice p.aH M.nH p.cH,Vi M.pc,Vi 0,.slice p.aO M.nO p.cO]:=by rw[<-a];exact(World.ownsRow_lit w #[Vs p.bR 8 p.cR,.bool M.z,.bool M.c,.bool M.hz,.bool M.hc,.slice p.aH M.nH p.cH,Vi M.pc,Vi 0,.slice p.aO M.nO p.cO] 1 BQ (by unfold maxLen;omega) rfl).alloc _
 have j:b.ownsRow w.heap.size 39 9 (.slice (some ⟨w.heap.size+1,0,none⟩) 1 1) 1 Zp:=by
  rw[<-a];have:=World.ownsRow_lit (base:=w.heap.size) (e:=39) (size:=9) (w.alloc (.cells #[Vs p.bR 8 p.cR,.bool M.z,.bool M.c,.bool M.hz,.bool M.hc,.slice p.aH M.nH p.cH,Vi M.pc,Vi 0,.slice p.aO M.nO p.cO] 39)) Zq 1 AX (by unfold maxLen;omega) rfl;rw[World.size_alloc]at this;exact this
 have C:=Dl h;have E:=Dl j;have D:∀i,b.frozen? ⟨w.heap.size,i,none⟩=false:=fun i=>h.frozenAt i
 have F:∀i,b.frozen? ⟨w.heap.size+1,i,none⟩=false:=fun i=>j.frozenAt i
 have y0:w.heap.size<b.heap.size:=AB;have y1:w.heap.size+1<b.heap.size:=AB;have X:w.heap.size+2<=b.heap.size:=AB;have l:=hxy s;have y:=hxy h;have n:=hxy j;clear a s h j U;go_wp2_with fail;refine(A9 _ _ _ _ _ _ _ _ _ _ _ _ _ _ _ _).mono ?_;rintro e r⟨rfl,k⟩;have o:=Av n k;obtain⟨I,J,K,L,N,O,Q,R,S⟩:=Dl o;have Y:∀i,r.frozen? ⟨w.heap.size+1,i,none⟩=false:=fun i=>o.frozenAt i
 have m:Hid (Bw w r):=l.trans (k.mono AB);have Z:w.heap.size+1<r.heap.size:=Ey AB k.size;clear k o C E D F;go_wp2;refine mY (.agg #[Vs p.bR 8 p.cR,.bool M.z,.bool M.c,.bool M.hz,.bool M.hc,.slice p.aH M.nH p.cH,Vi M.pc,Vi 2,.slice p.aO M.nO p.cO]) (by simp[results,Tryz.results46,go_sem,I,J,K,L,N,O,Q,R,S]) ?_;refine Bf.fault x ?_;iterate 9 refine Below.setCell ?_ AX _
 exact m
theorem Yh(h0:Mem w base p M)(ao:TJ)(hk:M.Ok)(hn:M.nO<=1048576)(b y ae aJ q:Nat)(F:Nat->Nat->Int)(hq:M.pc=q)(ac:M.st=0)(aT:q<ae)(hl:ae<=2000)(x:At w b y (ae*6) (Kt F))(m d a B h:Nat)(l:Int)
 (f0:F q 0=m)(f1:F q 1=d)(f2:F q 2=a)(f3:F q 3=B)(f4:F q 4=l)(f5:F q 5=h)(o1:1<=m)(o4:m<=34)(hd:d<8)(ha:a<8)(aK:B<8)(aC:(m=12∨m=13)->0<=l/\l<=63):
 Ks 46 #[.slice (some ⟨b,y,none⟩) ae aJ,.agg #[Vs p.bR 8 p.cR,.bool M.z,.bool M.c,.bool M.hz,.bool M.hc,.slice p.aH M.nH p.cH,Vi q,Vi 0,.slice p.aO M.nO p.cO]] w (Bf base w (Jb (exec m d a B h l M (M.pc+1)))):=by
 have C:=hxy h0;have hb:=x.lt;have aS:(q:Int)<ae:=AB;have g0:=((x.cell (i:=q*6+0) AB).trans (congrArg some (Eo F q 0 AB)))
 rw[Nat.add_zero,f0]at g0;have g1:=((x.cell (i:=q*6+1) AB).trans (congrArg some (Eo F q 1 AB)))
 rw[<-Nat.add_assoc,f1]at g1;have g2:=((x.cell (i:=q*6+2) AB).trans (congrArg some (Eo F q 2 AB)))
 rw[<-Nat.add_assoc,f2]at g2;have g3:=((x.cell (i:=q*6+3) AB).trans (congrArg some (Eo F q 3 AB)))
 rw[<-Nat.add_assoc,f3]at g3;have g4:=((x.cell (i:=q*6+4) AB).trans (congrArg some (Eo F q 4 AB)))
 rw[<-Nat.add_assoc,f4]at g4;have g5:=((x.cell (i:=q*6+5) AB).trans (congrArg some (Eo F q 5 AB)))
 rw[<-Nat.add_assoc,f5]at g5;clear x f0 f1 f2 f3 f4 f5;clear h0;go_enter Tryz.func46,Tryz.ntmps46;go_upto_region 1 with fail;generalize ad:(w.alloc (.cells #[Vs p.bR 8 p.cR,.bool M.z,.bool M.c,.bool M.hz,.bool M.hc,.slice p.aH M.nH p.cH,Vi q,Vi 0,.slice p.aO M.nO p.cO] 39)).alloc (.cells Zq 39)=u;have b0:Bw w u:=by rw[<-ad];exact(Ai).alloc AX _
 have z0:u.heap.size=w.heap.size+2:=by rw[<-ad];simp
 have XM:u.ownsRow w.heap.size 39 9 (Vs w.heap.size 1 1) 1 [Vs p.bR 8 p.cR,.bool M.z,.bool M.c,.bool M.hz,.bool M.hc,.slice p.aH M.nH p.cH,Vi q,Vi 0,.slice p.aO M.nO p.cO]:=by rw[<-ad];exact(World.ownsRow_lit w #[Vs p.bR 8 p.cR,.bool M.z,.bool M.c,.bool M.hz,.bool M.hc,.slice p.aH M.nH p.cH,Vi q,Vi 0,.slice p.aO M.nO p.cO] 1 BQ (by unfold maxLen;omega) rfl).alloc _
 have XZ:u.ownsRow w.heap.size 39 9 (.slice (some ⟨w.heap.size+1,0,none⟩) 1 1) 1 Zp:=by
  rw[<-ad];have:=World.ownsRow_lit (base:=w.heap.size) (e:=39) (size:=9) (w.alloc (.cells #[Vs p.bR 8 p.cR,.bool M.z,.bool M.c,.bool M.hz,.bool M.hc,.slice p.aH M.nH p.cH,Vi q,Vi 0,.slice p.aO M.nO p.cO] 39)) Zq 1 AX (by unfold maxLen;omega) rfl;rw[World.size_alloc]at this;exact this
 obtain⟨m0,m1,m2,m3,m4,m5,m6,m7,m8⟩:=Dl XM;obtain⟨J,L,O,Q,R,S,U,X,Y⟩:=Dl XZ;have mf:∀i,u.frozen? ⟨w.heap.size,i,none⟩=false:=fun i=>XM.frozenAt i
 have sf:∀i,u.frozen? ⟨w.heap.size+1,i,none⟩=false:=fun i=>XZ.frozenAt i
 have y0:w.heap.size<u.heap.size:=AB;have y1:w.heap.size+1<u.heap.size:=AB;have aU:w.heap.size+2<=u.heap.size:=AB;have aE:=hxy b0;have aG:=hxy XM;have aI:=hxy XZ;have k0:=(b0.cell (p:=Va b (y+q*6)) hb).trans g0;have k1:=(b0.cell (p:=Va b (y+q*6+1)) hb).trans g1;have k2:=(b0.cell (p:=Va b (y+q*6+2)) hb).trans g2;have k3:=(b0.cell (p:=Va b (y+q*6+3)) hb).trans g3;have k4:=(b0.cell (p:=Va b (y+q*6+4)) hb).trans g4;have k5:=(b0.cell (p:=Va b (y+q*6+5)) hb).trans g5;have aa:b<u.heap.size:=AB;clear g0 g1 g2 g3 g4 g5;clear ad b0 XM XZ z0;go_upto_region 6 with fail;generalize ag:u.alloc (.cells #[Vi m,Vi d,Vi a,Vi B,Vi l,Vi h] 99)=wx;have bx:Bw u wx:=by rw[<-ag];exact Ai
 have XI:wx.ownsRow u.heap.size 99 6 (Vs u.heap.size 1 1) 1 [Vi m,Vi d,Vi a,Vi B,Vi l,Vi h]:=by rw[<-ag];exact World.ownsRow_lit u #[Vi m,Vi d,Vi a,Vi B,Vi l,Vi h] 1 BQ (by unfold maxLen;omega) rfl
 have yx:u.heap.size<wx.heap.size:=by rw[<-ag];simp
 have y0:w.heap.size<wx.heap.size:=AB;have y1:w.heap.size+1<wx.heap.size:=AB;have MX:=Av aG bx;have ZX:=Av aI bx;have af:Hid (Bw w wx):=aE.trans (bx.mono AB);clear ag m0 m1 m2 m3 m4 m5 m6 m7 m8 J L O Q R S U X Y mf sf k0 k1 k2 k3 k4 k5;obtain⟨m0,m1,m2,m3,m4,m5,m6,m7,m8⟩:=Dl MX;obtain⟨J,L,O,Q,R,S,U,X,Y⟩:=Dl ZX;obtain⟨i0,i1,i2,i3,i4,i5⟩:=E5 XI;have mf:∀i,wx.frozen? ⟨w.heap.size,i,none⟩=false:=fun i=>MX.frozenAt i
 have sf:∀i,wx.frozen? ⟨w.heap.size+1,i,none⟩=false:=fun i=>ZX.frozenAt i
 have aA:=hxy MX;have aB:=hxy ZX;clear MX ZX XI bx;by_cases o2:m<=28
 ·skip
  have aN:¬(m:Int)=34:=AB;have aP:¬(m:Int)=29:=AB;have hj:EH (m:Int)=false:=by unfold EH;simp;omega
  have zR:=C.ltR;have q1:IntKind.i64.wrap ((q:Int)+1)=q+1:=Gu AB AB;have au:Hid TJ:=ao;have HK:Hid M.Ok:=hk;clear ao hk;go_wp2_with fail;refine(DY _ _).mono ?_;rintro e wy⟨rfl,ab⟩;rw[ab,hj];clear ab wy;go_wp2_with fail;have Bx:=af.out;have hc:=au.out wx base p M (C.below Bx) HK hn m d a B h l o1 o2 hd ha aK aC;rw[hq,ac]at hc;refine hc.mono ?_;rintro e A⟨⟨n,rfl,b2,mm⟩,kp⟩;have M2:=kp.row aA;have Z2:=kp.row aB;have ah:=Xu m d a B h l M o1 o2 ac;generalize uq m d a B h l M=N at mm ah⊢;have ax:=hxy mm;have D:Hid (Below base w A):=(Bx.mono AB).trans b2;have av:=hxy ((Kept.below Bx).trans kp);have az:=hxy (Xc mm M2);have E:=hxy (Xc mm Z2);have z2:=b2.size;clear m0 m1 m2 m3 m4 m5 m6 m7 m8 J L O Q R S U X Y mf sf i0 i1 i2 i3 i4 i5 hc b2 kp Bx mm au HK;obtain⟨m0,m1,m2,m3,m4,m5,m6,m7,m8⟩:=Dl M2;obtain⟨J,L,O,Q,R,S,U,X,Y⟩:=Dl Z2;have mf:∀i,A.frozen? ⟨w.heap.size,i,none⟩=false:=fun i=>M2.frozenAt i
  have sf:∀i,A.frozen? ⟨w.heap.size+1,i,none⟩=false:=fun i=>Z2.frozenAt i
  have v0:w.heap.size<A.heap.size:=AB;have v1:w.heap.size+1<A.heap.size:=AB;clear M2 Z2 y0 y1 z2;simp only[xX];go_upto_region 22 with fail;generalize j:(((((((((A.setCell ⟨w.heap.size,0,none⟩ (Vs n.bR 8 n.cR)).setCell ⟨w.heap.size,1,none⟩ (.bool N.z)).setCell ⟨w.heap.size,2,none⟩ (.bool N.c)).setCell ⟨w.heap.size,3,none⟩ (.bool N.hz)).setCell ⟨w.heap.size,4,none⟩ (.bool N.hc)).setCell ⟨w.heap.size,5,none⟩ (.slice n.aH N.nH n.cH)).setCell ⟨w.heap.size,6,none⟩ (Vi N.pc)).setCell ⟨w.heap.size,7,none⟩ (Vi N.st)).setCell ⟨w.heap.size,8,none⟩ (.slice n.aO N.nO n.cO))=r;have ay:Hid (Mem r base n N):=by
   rw[<-j];iterate 9 refine Mem.setOff (M:=N) ?_ az _ _
   exact ax
  have ar:Hid (Below base w r):=by
   rw[<-j];iterate 9 refine Below.setCell ?_ (by simp;omega) _
   exact D
  have aw:Hid (Kept w r):=by
   rw[<-j];iterate 9 refine Kept.new ?_ BQ _ _
   exact av
  have n0:r.cell? ⟨w.heap.size,0,none⟩=some (Vs n.bR 8 n.cR):=by rw[<-j];simp[go_sem,m0]
  have n1:r.cell? ⟨w.heap.size,1,none⟩=some (.bool N.z):=by rw[<-j];simp[go_sem,m1]
  have n2:r.cell? ⟨w.heap.size,2,none⟩=some (.bool N.c):=by rw[<-j];simp[go_sem,m2]
  have n3:r.cell? ⟨w.heap.size,3,none⟩=some (.bool N.hz):=by rw[<-j];simp[go_sem,m3]
  have n4:r.cell? ⟨w.heap.size,4,none⟩=some (.bool N.hc):=by rw[<-j];simp[go_sem,m4]
  have n5:r.cell? ⟨w.heap.size,5,none⟩=some (.slice n.aH N.nH n.cH):=by rw[<-j];simp[go_sem,m5]
  have n6:r.cell? ⟨w.heap.size,6,none⟩=some (Vi N.pc):=by rw[<-j];simp[go_sem,m6]
  have n7:r.cell? ⟨w.heap.size,7,none⟩=some (Vi N.st):=by rw[<-j];simp[go_sem,m7]
  have n8:r.cell? ⟨w.heap.size,8,none⟩=some (.slice n.aO N.nO n.cO):=by rw[<-j];simp[go_sem,m8]
  have t0:r.cell? ⟨w.heap.size+1,0,none⟩=some (.slice none 0 0):=by rw[<-j];simp[go_sem,J]
  have t1:r.cell? ⟨w.heap.size+1,1,none⟩=some (.bool false):=by rw[<-j];simp[go_sem,L]
  have t2:r.cell? ⟨w.heap.size+1,2,none⟩=some (.bool false):=by rw[<-j];simp[go_sem,O]
  have t3:r.cell? ⟨w.heap.size+1,3,none⟩=some (.bool false):=by rw[<-j];simp[go_sem,Q]
  have t4:r.cell? ⟨w.heap.size+1,4,none⟩=some (.bool false):=by rw[<-j];simp[go_sem,R]
  have t5:r.cell? ⟨w.heap.size+1,5,none⟩=some (.slice none 0 0):=by rw[<-j];simp[go_sem,S]
  have t6:r.cell? ⟨w.heap.size+1,6,none⟩=some (Vi 0):=by rw[<-j];simp[go_sem,U]
  have t7:r.cell? ⟨w.heap.size+1,7,none⟩=some (Vi 0):=by rw[<-j];simp[go_sem,X]
  have t8:r.cell? ⟨w.heap.size+1,8,none⟩=some (.slice none 0 0):=by rw[<-j];simp[go_sem,Y]
  have nf:∀i,r.frozen? ⟨w.heap.size,i,none⟩=false:=fun i=>by rw[<-j];simp[go_sem,mf]
  have tf:∀i,r.frozen? ⟨w.heap.size+1,i,none⟩=false:=fun i=>by rw[<-j];simp[go_sem,sf]
  have x0:w.heap.size<r.heap.size:=by rw[<-j];simpa using v0
  have x1:w.heap.size+1<r.heap.size:=by rw[<-j];simpa using v1
  clear j m0 m1 m2 m3 m4 m5 m6 m7 m8 J L O Q R S U X Y mf sf v0 v1 ax D av;rcases ah with⟨e1,e2,e3⟩|⟨e1,e3⟩
  ·rw[hq]at e2 e3
   rw[e2]at n6;rw[e1]at n7;have aj:Hid _:=e3;clear e3;go_wp2;refine mY (.agg #[Vs n.bR 8 n.cR,.bool N.z,.bool N.c,.bool N.hz,.bool N.hc,.slice n.aH N.nH n.cH,Vi (q+1),Vi 0,.slice n.aO N.nO n.cO]) (by simp[results,Tryz.results46,go_sem,t0,t1,t2,t3,t4,t5,t6,t7,t8]) ?_;try simp only[hq]
   rw[aj.out];refine⟨⟨n,?_,?_,?_⟩,?_⟩
   ·unfold xX
    simp only[e1]
   ·repeat refine Below.setCell ?_ (by simp;omega) _
    exact ar
   ·skip
    refine(fun(q:Mem _ base n N)=>⟨q.regs,q.heaps,q.data,q.obs,q.ne⟩) ?_;iterate 9 refine Mem.setOff (M:=N) ?_ E _ _
    refine Mem.setOff (M:=N) ?_ az _ _;exact ay
   ·repeat refine Kept.new ?_ AB _ _
    exact aw
  ·rw[hq]at e3
   rw[e1]at n7;have aj:Hid _:=e3;clear e3;go_wp2;refine mY (.agg #[Vs n.bR 8 n.cR,.bool N.z,.bool N.c,.bool N.hz,.bool N.hc,.slice n.aH N.nH n.cH,Vi N.pc,Vi 2,.slice n.aO N.nO n.cO]) (by simp[results,Tryz.results46,go_sem,t0,t1,t2,t3,t4,t5,t6,t7,t8]) ?_
   try simp only[hq]
   rw[aj.out]
   refine⟨⟨n,?_,?_,?_⟩,?_⟩
   ·unfold xX
    simp only[e1]
   ·repeat refine Below.setCell ?_ (by simp;omega) _
    exact ar
   ·skip
    iterate 9 refine Mem.setOff (M:=N) ?_ E _ _
    exact ay
   ·repeat refine Kept.new ?_ AB _ _
    exact aw
 ·have hc:m=34∨m=29∨m=30∨m=31∨m=32∨m=33:=AB
  clear ao hk aC
  rcases hc with rfl|rfl|hc
  ·skip
   go_wp2
   refine mY (.agg #[Vs p.bR 8 p.cR,.bool M.z,.bool M.c,.bool M.hz,.bool M.hc,.slice p.aH M.nH p.cH,Vi q,Vi 1,.slice p.aO M.nO p.cO]) (by simp[results,Tryz.results46,go_sem,J,L,O,Q,R,S,U,X,Y]) ?_
   have hE:Jb (exec 34 d a B h l M (M.pc+1))=M.but M.z M.c M.hz M.hc q 1:=by
    show M.but M.z M.c M.hz M.hc M.pc 1=_
    rw[hq]
   rw[hE]
   refine Bf.but C M.z M.c M.hz M.hc q 1 ?_
   iterate 9 refine Below.setCell ?_ AX _
   try refine Below.setCell ?_ AX _
   exact af
  ·skip
   go_wp2
   refine mY (.agg #[Vs p.bR 8 p.cR,.bool M.z,.bool M.c,.bool M.hz,.bool M.hc,.slice p.aH M.nH p.cH,Vi l,Vi 0,.slice p.aO M.nO p.cO]) (by simp[results,Tryz.results46,go_sem,J,L,O,Q,R,S,U,X,Y]) ?_
   have hE:Jb (exec 29 d a B h l M (M.pc+1))=M.but M.z M.c M.hz M.hc l 0:=by
    show M.but M.z M.c M.hz M.hc l M.st=_
    rw[ac]
   rw[hE]
   refine Bf.but C M.z M.c M.hz M.hc l 0 ?_
   iterate 9 refine Below.setCell ?_ AX _
   try refine Below.setCell ?_ AX _
   exact af
  ·obtain⟨o,fd,fv,ap⟩:∃o fd fv,(m=30/\o=true/\fd=M.hz/\fv=M.z)∨(m=31/\o=false/\fd=M.hz/\fv=M.z)∨(m=32/\o=true/\fd=M.hc/\fv=M.c)∨(m=33/\o=false/\fd=M.hc/\fv=M.c):=by rcases hc with rfl|rfl|rfl|rfl<;>simp
   clear hc
   have hj:EH (m:Int)=true:=by rcases ap with⟨rfl,_⟩|⟨rfl,_⟩|⟨rfl,_⟩|⟨rfl,_⟩<;>decide
   have HX:Hid (exec m d a B h l M (M.pc+1)=Da fd fv o l M (M.pc+1)):=by show _=_;rcases ap with⟨rfl,rfl,rfl,rfl⟩|⟨rfl,rfl,rfl,rfl⟩|⟨rfl,rfl,rfl,rfl⟩|⟨rfl,rfl,rfl,rfl⟩<;>rfl
   have aN:¬(m:Int)=34:=AB
   have aP:¬(m:Int)=29:=AB
   have aR:IntKind.i64.wrap ((m:Int)-29)=m-29:=Gu AB AB
   have zR:=C.ltR
   have q1:IntKind.i64.wrap ((q:Int)+1)=q+1:=Gu AB AB
   go_wp2_with fail
   refine(DY _ _).mono ?_
   rintro e wy⟨rfl,ab⟩
   rw[ab,hj]
   clear ab wy
   go_wp2_with fail
   refine(RZ _ _ _ _ _ _ _ _ _ _ _ _ _ _ _ ((m:Int)-29) _).mono ?_
   rintro e A⟨he,b2⟩
   have aM:e=.returned (.tuple #[.bool fd,.bool (fv==o)]):=by
    rw[he]
    rcases ap with⟨rfl,rfl,rfl,rfl⟩|⟨rfl,rfl,rfl,rfl⟩|⟨rfl,rfl,rfl,rfl⟩|⟨rfl,rfl,rfl,rfl⟩<;>simp
   subst aM
   have M2:=Av aA b2
   have Z2:=Av aB b2
   have aQ:=hxy M2
   have am:=hxy Z2
   have D:Hid (Bw w A):=af.trans (b2.mono AB)
   have z2:=b2.size
   have aD:=(b2.cell (p:=⟨u.heap.size,4,none⟩) yx).trans i4
   clear m0 m1 m2 m3 m4 m5 m6 m7 m8 J L O Q R S U X Y mf sf i0 i1 i2 i3 i4 i5 he b2 y0 y1
   obtain⟨m0,m1,m2,m3,m4,m5,m6,m7,m8⟩:=Dl M2
   obtain⟨J,L,O,Q,R,S,U,X,Y⟩:=Dl Z2
   have mf:∀i,A.frozen? ⟨w.heap.size,i,none⟩=false:=fun i=>M2.frozenAt i
   have sf:∀i,A.frozen? ⟨w.heap.size+1,i,none⟩=false:=fun i=>Z2.frozenAt i
   have y0:w.heap.size<A.heap.size:=AB
   have y1:w.heap.size+1<A.heap.size:=AB
   have y2:u.heap.size<A.heap.size:=AB
   clear M2 Z2
   cases fd with
   |false=>
    go_wp2_with fail
    refine(A9 _ _ _ _ _ _ _ _ _ _ _ _ _ _ _ _).mono ?_
    rintro e w1⟨rfl,b1⟩
    have Z1:=Av am b1
    obtain⟨t0,t1,t2,t3,t4,t5,t6,t7,t8⟩:=Dl Z1
    have tf:∀i,w1.frozen? ⟨w.heap.size+1,i,none⟩=false:=fun i=>Z1.frozenAt i
    have aF:Hid (Bw w w1):=D.trans (b1.mono AB)
    have v1:w.heap.size+1<w1.heap.size:=Ey AB b1.size
    clear b1 Z1 m0 m1 m2 m3 m4 m5 m6 m7 m8 J L O Q R S U X Y mf sf
    go_wp2
    refine mY (.agg #[Vs p.bR 8 p.cR,.bool M.z,.bool M.c,.bool M.hz,.bool M.hc,.slice p.aH M.nH p.cH,Vi q,Vi 2,.slice p.aO M.nO p.cO]) (by simp[results,Tryz.results46,go_sem,t0,t1,t2,t3,t4,t5,t6,t7,t8]) ?_
    have hE:Jb (exec m d a B h l M (M.pc+1))=M.fault:=by
     rw[HX.out]
     unfold Da
     rfl
    rw[hE]
    have hV:(Value.agg #[Vs p.bR 8 p.cR,.bool M.z,.bool M.c,.bool M.hz,.bool M.hc,.slice p.aH M.nH p.cH,Vi q,Vi 2,.slice p.aO M.nO p.cO])=xX p M.fault:=by
     unfold xX MV.fault
     simp only[hq]
    rw[hV]
    refine Bf.fault C ?_
    iterate 9 refine Below.setCell ?_ AX _
    exact aF
   |true=>
    cases aa:(fv==o)with
    |true=>
     try rw[aa]
     go_wp2_with fail
     generalize s:A.setCell ⟨w.heap.size,6,none⟩ (Vi l)=w9
     have B9:Bw w w9:=by rw[<-s];exact D.setCell AX _
     have Z9:w9.ownsRow w.heap.size 39 9 (.slice (some ⟨w.heap.size+1,0,none⟩) 1 1) 1 Zp:=by rw[<-s];exact ownsRow_setCell_other am (by simp[Value.ownBlock]) _
     have z9:w9.heap.size=A.heap.size:=by rw[<-s];simp
     clear s m0 m1 m2 m3 m4 m5 m6 m7 m8 J L O Q R S U X Y mf sf aD
     have M9:=C.below B9
     refine(Fy base (first (M.nO*2) (Dg M.K M.V)) _ _ _ _ _ _ _ _ _ _ _ _ p.aO M.nO p.cO 2 1 w9 hn AB M9.obs).mono ?_
     rintro e wc⟨g,cp,rfl,oc,I⟩
     have an:some (w.heap.size+1)≠(Value.slice p.aO M.nO p.cO).ownBlock:=fun qq=>by have:=(C.obs.lt _ qq.symm).2;omega
     have ZC:=Z9.kept I (.inr an)
     have gZ:g≠w.heap.size+1:=by
      have:=Fu (Aj oc ZC Ad)
      simpa[Value.ownBlock]using this
     have Z:=M9.see oc I
     have al:=hxy Z
     have ai:Hid (Below base w wc):=(B9.mono AB).trans (BJ.grown I AB (fun k hk=>(C.obs.lt k hk).1))
     have ak:=hxy ((Kept.below B9).trans (Kept.grown M9 I))
     have E:Hid (Off {p with aO:=some ⟨g,0,none⟩,cO:=cp} (M.see 2 1).nH (M.see 2 1).nO (w.heap.size+1)):=Dh (M:=M.see 2 1) C rfl AB gZ cp
     have zc:=I.size
     have v1:w.heap.size+1<wc.heap.size:=AB
     obtain⟨t0,t1,t2,t3,t4,t5,t6,t7,t8⟩:=Dl ZC
     have tf:∀i,wc.frozen? ⟨w.heap.size+1,i,none⟩=false:=fun i=>ZC.frozenAt i
     clear ZC Z9 oc I Z M9 B9 gZ
     go_wp2
     refine mY (.agg #[Vs p.bR 8 p.cR,.bool M.z,.bool M.c,.bool M.hz,.bool M.hc,.slice p.aH M.nH p.cH,Vi l,Vi 0,Vs g (M.nO+1) cp]) (by simp[results,Tryz.results46,go_sem,t0,t1,t2,t3,t4,t5,t6,t7,t8]) ?_
     have hE:Jb (exec m d a B h l M (M.pc+1))={M.see 2 1 with pc:=l}:=by
      rw[HX.out]
      unfold Da
      rw[aa]
      rfl
     rw[hE]
     refine⟨⟨{p with aO:=some ⟨g,0,none⟩,cO:=cp},?_,?_,?_⟩,?_⟩
     ·unfold xX MV.see
      simp only[ac]
     ·iterate 9 refine Below.setCell ?_ (by simp;omega) _
      exact ai
     ·refine(fun(q:Mem _ base _ (M.see 2 1))=>⟨q.regs,q.heaps,q.data,q.obs,q.ne⟩) ?_
      iterate 9 refine Mem.setOff (M:=M.see 2 1) ?_ E _ _
      exact al
     ·iterate 9 refine Kept.new ?_ AB _ _
      exact ak
    |false=>
     try rw[aa]
     go_wp2_with fail
     try rw[q1]
     generalize s:A.setCell ⟨w.heap.size,6,none⟩ (Vi (q+1))=w9
     have B9:Bw w w9:=by rw[<-s];exact D.setCell AX _
     have Z9:w9.ownsRow w.heap.size 39 9 (.slice (some ⟨w.heap.size+1,0,none⟩) 1 1) 1 Zp:=by rw[<-s];exact ownsRow_setCell_other am (by simp[Value.ownBlock]) _
     have z9:w9.heap.size=A.heap.size:=by rw[<-s];simp
     clear s m0 m1 m2 m3 m4 m5 m6 m7 m8 J L O Q R S U X Y mf sf aD
     have M9:=C.below B9
     refine(Fy base (first (M.nO*2) (Dg M.K M.V)) _ _ _ _ _ _ _ _ _ _ _ _ p.aO M.nO p.cO 2 0 w9 hn AB M9.obs).mono ?_
     rintro e wc⟨g,cp,rfl,oc,I⟩
     have an:some (w.heap.size+1)≠(Value.slice p.aO M.nO p.cO).ownBlock:=fun qq=>by have:=(C.obs.lt _ qq.symm).2;omega
     have ZC:=Z9.kept I (.inr an)
     have gZ:g≠w.heap.size+1:=by
      have:=Fu (Aj oc ZC Ad)
      simpa[Value.ownBlock]using this
     have Z:=M9.see oc I
     have al:=hxy Z
     have ai:Hid (Below base w wc):=(B9.mono AB).trans (BJ.grown I AB (fun k hk=>(C.obs.lt k hk).1))
     have ak:=hxy ((Kept.below B9).trans (Kept.grown M9 I))
     have E:Hid (Off {p with aO:=some ⟨g,0,none⟩,cO:=cp} (M.see 2 0).nH (M.see 2 0).nO (w.heap.size+1)):=Dh (M:=M.see 2 0) C rfl AB gZ cp
     have zc:=I.size
     have v1:w.heap.size+1<wc.heap.size:=AB
     obtain⟨t0,t1,t2,t3,t4,t5,t6,t7,t8⟩:=Dl ZC
     have tf:∀i,wc.frozen? ⟨w.heap.size+1,i,none⟩=false:=fun i=>ZC.frozenAt i
     clear ZC Z9 oc I Z M9 B9 gZ
     go_wp2
     refine mY (.agg #[Vs p.bR 8 p.cR,.bool M.z,.bool M.c,.bool M.hz,.bool M.hc,.slice p.aH M.nH p.cH,Vi (q+1),Vi 0,Vs g (M.nO+1) cp]) (by simp[results,Tryz.results46,go_sem,t0,t1,t2,t3,t4,t5,t6,t7,t8]) ?_
     have hE:Jb (exec m d a B h l M (M.pc+1))={M.see 2 0 with pc:=(q+1)}:=by
      rw[HX.out]
      unfold Da
      rw[aa,hq]
      rfl
     rw[hE]
     refine⟨⟨{p with aO:=some ⟨g,0,none⟩,cO:=cp},?_,?_,?_⟩,?_⟩
     ·unfold xX MV.see
      simp only[ac]
     ·iterate 9 refine Below.setCell ?_ (by simp;omega) _
      exact ai
     ·refine(fun(q:Mem _ base _ (M.see 2 0))=>⟨q.regs,q.heaps,q.data,q.obs,q.ne⟩) ?_
      iterate 9 refine Mem.setOff (M:=M.see 2 0) ?_ E _ _
      exact al
     ·iterate 9 refine Kept.new ?_ AB _ _
      exact ak
theorem R8(s:TJ)(o:Mem w base p M)(U:M.Ok)(X:M.nO<=1048576)(C:0<=M.pc)(b l e k:Nat)(F:Nat->Nat->Int)(r:At w b l (e*6) (Kt F))(u:EW e F=true):
 Ks 46 #[.slice (some ⟨b,l,none⟩) e k,xX p M] w (Bf base w (if M.st=0 then stepM e F M else M)):=by
 by_cases j:M.st=0
 ·rw[if_pos j]
  by_cases m:(e:Int)<=M.pc
  ·have S:stepM e F M=M.fault:=by unfold stepM;rw[if_pos m]
   have:=UA o (some ⟨b,l,none⟩) e k m;rw[S];unfold xX;rw[j];exact this
  ·obtain⟨q,N⟩:=Int.eq_ofNat_of_zero_le C
   have n:q<e:=AB;have y:e<=2000/\OY F q=true:=by
    unfold EW at u;simp only[Bool.and_eq_true,decide_eq_true_eq,List.all_eq_true,List.mem_range]at u;refine⟨AB,?_⟩;have:=u.1.2 q n;unfold FP at this;simp only[Bool.and_eq_true]at this;exact this.1
   obtain⟨y,x⟩:=y;unfold OY at x;have Y:=fun L=>Yc x L
   obtain⟨⟨a1,a2⟩,⟨Q,d2⟩,⟨Z,x2⟩,⟨y1,y2⟩,⟨z1,z2⟩⟩:=Ma x;obtain⟨B,D⟩:=Int.eq_ofNat_of_zero_le (show 0<=F q 0 by omega);obtain⟨d,E⟩:=Int.eq_ofNat_of_zero_le Q;obtain⟨a,I⟩:=Int.eq_ofNat_of_zero_le Z;obtain⟨O,J⟩:=Int.eq_ofNat_of_zero_le y1;obtain⟨h,K⟩:=Int.eq_ofNat_of_zero_le z1;have A:(B=12∨B=13)->0<=F q 4/\F q 4<=63:=fun L=>Y AB
   rw[Oi e F M m,show M.pc.toNat=q by omega,D,E,I,J,K,Int.toNat_natCast,Int.toNat_natCast,Int.toNat_natCast,Int.toNat_natCast,Int.toNat_natCast];have R:xX p M=.agg #[Vs p.bR 8 p.cR,.bool M.z,.bool M.c,.bool M.hz,.bool M.hc,.slice p.aH M.nH p.cH,Vi q,Vi 0,.slice p.aO M.nO p.cO]:=by unfold xX;rw[N,j]
   rw[R];exact Yh o s U X b l e k q F N j n y r B d a O h (F q 4) D E I J rfl K AB AB AB AB AB A
 ·rw[if_neg j]
  exact Rh o j _ e k
end
end Go.Proofs.YtcjnmdgomocpgaaGreatDoor
