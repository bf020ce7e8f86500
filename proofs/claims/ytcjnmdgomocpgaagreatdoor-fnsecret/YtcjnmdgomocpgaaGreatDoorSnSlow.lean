import Derived.Test.YtcjnmdgomocpgaaGreatDoorOfSnApp
set_option maxHeartbeats 16000000
set_option maxRecDepth 20000
namespace Go.Proofs.YtcjnmdgomocpgaaGreatDoor
open Go.RowKit Go.Deep
structure SZ(w:World)(p:Nat)(ao:Option Addr)(n cap:Nat)(u:World):Prop where
 F:Fw p w u
 K:CJ u p ao n cap
 lp:p<w.heap.size
section
variable{w:World}{p:Nat}{ao:Option Addr}{n cap:Nat}{u u':World}{B g c:Nat}{xs:List SV}
abbrev VR(u:World)(B g c:Nat)(xs:List SV):Prop:=u.ownsRow B 117 11 (.slice (some ⟨g,0,none⟩) xs.length c) xs.length (Es xs)
theorem SZ.fw(h:SZ w p ao n cap u)(f:Fw p u u')(k:CJ u' p ao n cap):SZ w p ao n cap u':=⟨h.F.trans f,k,h.lp⟩
theorem SZ.below(h:SZ w p ao n cap u)(b:Below u.heap.size u u'):SZ w p ao n cap u':=h.fw (.of_below b) (h.K.below b)
theorem SZ.grow(h:SZ w p ao n cap u)(a:u.grownBy u' (some g))(b:w.heap.size<=g):SZ w p ao n cap u':=by
 have:=h.lp;exact⟨h.F.grown a (fun k e=>by have:=Option.some.inj e;omega),h.K.grown a (fun k e=>by have:=Option.some.inj e;omega),h.lp⟩
theorem VR.grow(h:VR u B g c xs){g':Nat}(a:u.grownBy u' (some g'))(b:g≠g'):VR u' B g c xs:=h.kept a (Or.inr (by simpa[Value.ownBlock]using b))
end
theorem SA(p:Nat)(A:Option Addr)(n l:Nat)(w:World)(hc:CJ w p A n l):
 Ks 20 #[Vq p] w (yj 9330 w p A n l):=by
 have X0:Hid (SZ w p A n l w):=⟨.of_below BJ,hc,hc.lt⟩
 clear hc;go_enter Tryz.func20,Tryz.ntmps20;go_wp2_with fail;refine(Af p A n l 4 _ AB X0.K).mono ?_;rintro e y1⟨x,rfl,x0,x4,f,k⟩;have X1:=hxy (X0.fw f k);clear f k X0;obtain⟨d,hd⟩:∃d:Nat,IntKind.i64.wrap (1+x)=(d:Int):=⟨(1+x).toNat,by rw[IntKind.wrap_i64]<;>omega⟩
 have aJ:d<=4:=by rw[IntKind.wrap_i64]at hd<;>omega
 go_wp2_with fail;clear hd x0 x4;go_loopw [4,5](fun v4 v5 wr=>∃(k g c:Nat)(s:List SV),v5=Vi k/\v4=Vs g s.length c/\k<=4/\s.length+5*k<=20/\SZ w p A n l wr/\VR wr w.heap.size g c s)(fun _ v5 _=>(intOf v5).toNat)
 case atStart=>
  have b:=(Below.refl y1.heap.size y1).alloc BQ (.cells #[] 117);exact⟨d,y1.heap.size,0,[],rfl,rfl,aJ,by simp;omega,X1.below b,ES (World.ownsRow_lit y1 #[] 0 BQ (by unfold maxLen;omega) rfl) X1.F.size⟩
 case round=>
 obtain⟨k,g,c,s,rfl,rfl,aR,hl,hX,hR⟩:=hrel;have X2:=hxy hX;have R2:=hxy hR;have Z:=hxy hl;clear hX hR hl X1;by_cases aK:k=0
 ·subst aK
  go_wp2_with fail;go_ret;exact⟨g,c,s,rfl,by have:=Z.out;omega,R2,X2.F,X2.K⟩
 have aQ:(0:Int)<k:=AB;obtain⟨r,hr⟩:∃r:Nat,IntKind.i64.wrap ((k:Int)+1)=(r:Int):=⟨k+1,by rw[IntKind.wrap_i64]<;>omega⟩
 go_upto_region 8 with fail;obtain⟨y2,ax,b2,q7⟩:∃y,wr.alloc (.cells #[Vi 10,Vi r,Vi r,Vi 0,Vi 1,Vi 0] 99)=y/\Bw wr y/\y.heap[wr.heap.size]?=some (.cells #[Vi 10,Vi r,Vi r,Vi 0,Vi 1,Vi 0] 99):=⟨_,rfl,Ai,Az _ _⟩
 rw[ax];obtain⟨M,ab⟩:=Au wr.heap.size;rw[ab]at q7⊢;have X3:=hxy (X2.below b2);have R3:=hxy (BM R2 b2);have Q3:=hxy q7;have aS:w.heap.size<=M:=by have:=X2.F.size;omega
 clear ax b2 q7 X2 R2 ab hr;go_wp2_with fail;refine(Af p A n l 24 _ AB X3.K).mono ?_;rintro e y3⟨Y,rfl,_,_,f,kk⟩;have X4:=hxy (X3.fw f kk);have R4:=hxy (Eb R3 f X3.lp);have Q4:Hid (y3.heap[M]?=some (.cells #[Vi 10,Vi r,Vi r,Vi 0,Vi 1,Vi 0] 99)):=(f.block M (Bp Q3) (by have:=X3.lp;omega)).trans Q3;clear f kk X3 R3 Q3;go_upto_region 9 with fail;obtain⟨C,ay,b4,q8⟩:∃y,y3.alloc (.cells #[Vi 11,Vi r,Vi r,Vi 0,Vi Y,Vi 0] 99)=y/\Bw y3 y/\y.heap[y3.heap.size]?=some (.cells #[Vi 11,Vi r,Vi r,Vi 0,Vi Y,Vi 0] 99):=⟨_,rfl,Ai,Az _ _⟩
 rw[ay];obtain⟨a8,ac⟩:=Au y3.heap.size;rw[ac]at q8⊢;have X5:=hxy (X4.below b4);have R5:=hxy (BM R4 b4);have Q5:=hxy ((b4.block M (Bp Q4)).trans Q4);have T5:=hxy q8;clear ay b4 q8 X4 R4 Q4 ac;obtain⟨y5,az,X,o5⟩:∃y,C.alloc (.cells #[] 117)=y/\Bw C y/\VR y C.heap.size C.heap.size 0 []:=⟨_,rfl,Ai,World.ownsRow_lit C #[] 0 BQ (by unfold maxLen;omega) rfl⟩
 have w4:=X5.F.size;obtain⟨g1,c1,D,a,o6,u,ag⟩:=Ju y5 w.heap.size C.heap.size 0 [] (ES o5 w4) _ g c s (BM R5 X) (by have:=Z.out;simp;omega) (X5.below X).F.size;rw[List.nil_append]at a o6;have X6:=hxy ((X5.below X).grow u w4);have O6:=hxy o6;have aD:M≠C.heap.size:=by have:=Bp Q5.out;omega
 have aE:a8≠C.heap.size:=by have:=Bp T5.out;omega
 have I:Hid (D.heap[M]?=some (.cells #[Vi 10,Vi r,Vi r,Vi 0,Vi 1,Vi 0] 99)):=Be ((X.block M (Bp Q5)).trans Q5) u (by simpa using Ne.symm aD);have J:Hid (D.heap[a8]?=some (.cells #[Vi 11,Vi r,Vi r,Vi 0,Vi Y,Vi 0] 99)):=Be ((X.block a8 (Bp T5)).trans T5) u (by simpa using Ne.symm aE);rw[<-az]at a;clear az X o5 o6 u ag X5 R5 Q5 T5 w4 aD aE;go_upto_region 10 with(first|(at_builtin;refine FO rfl _ _ 27 rfl rfl rfl a ?_));clear a;have x0:=(AJ I 0).trans rfl;have x1:=(AJ I 1).trans rfl;have x2:=(AJ I 2).trans rfl;have x3:=(AJ I 3).trans rfl;have x4:=(AJ I 4).trans rfl;have x5:=(AJ I 5).trans rfl;have z0:=(AJ J 0).trans rfl;have z1:=(AJ J 1).trans rfl;have z2:=(AJ J 2).trans rfl;have z3:=(AJ J 3).trans rfl;have z4:=(AJ J 4).trans rfl;have z5:=(AJ J 5).trans rfl;obtain⟨s1,au⟩:∃e:SV,(⟨1,10,r,r,0,1,0,0,0,0,0⟩:SV)=e:=⟨_,rfl⟩
 obtain⟨s2,av⟩:∃e:SV,(⟨1,11,r,r,0,Y,0,0,0,0,0⟩:SV)=e:=⟨_,rfl⟩
 obtain⟨y7,aA,b7,o7⟩:∃y,D.alloc (.cells #[Vi 1,Vi 10,Vi r,Vi r,Vi 0,Vi 1,Vi 0,Vi 0,Vi 0,Vi 0,Vi 0,Vi 1,Vi 11,Vi r,Vi r,Vi 0,Vi Y,Vi 0,Vi 0,Vi 0,Vi 0,Vi 0] 117)=y/\Bw D y/\VR y D.heap.size D.heap.size 2 [s1,s2]:=⟨_,rfl,Ai,by rw[<-au,<-av];exact World.ownsRow_lit D (Es [⟨1,10,r,r,0,1,0,0,0,0,0⟩,⟨1,11,r,r,0,Y,0,0,0,0,0⟩]).toArray 2 BQ (by unfold maxLen;omega) rfl⟩
 obtain⟨g2,c2,E,h,o8,ah,ai⟩:=Ju y7 w.heap.size g1 c1 s (BM O6 b7) _ D.heap.size 2 [s1,s2] o7 (by have:=Z.out;simp;omega) (X6.below b7).F.size;obtain⟨zs,R⟩:=Au (s++[s1,s2]);rw[R]at h o8;have ar:zs.length=s.length+2:=by rw[<-R];simp
 have X8:Hid (SZ w p A n l E):=(X6.below b7).grow ah (Hz O6 rfl);have O8:=hxy o8;have HZ:=hxy ar;rw[<-aA]at h;clear aA b7 o7 o8 ah ai X6 O6 au av R ar I J;go_upto_region 11 with(first|(at_builtin;refine FO rfl _ _ 27 rfl rfl rfl h ?_));clear h x0 x1 x2 x3 x4 x5 z0 z1 z2 z3 z4 z5;go_upto_region 12 with fail;obtain⟨f1,ad⟩:∃e:SV,(⟨1,2,r,0,0,0,0,0,0,0,0⟩:SV)=e:=⟨_,rfl⟩
 obtain⟨f2,ae⟩:∃e:SV,(⟨1,18,0,r,0,0,0,0,0,0,0⟩:SV)=e:=⟨_,rfl⟩
 obtain⟨U,aB,b9,o9⟩:∃y,E.alloc (.cells #[Vi 1,Vi 2,Vi r,Vi 0,Vi 0,Vi 0,Vi 0,Vi 0,Vi 0,Vi 0,Vi 0,Vi 1,Vi 18,Vi 0,Vi r,Vi 0,Vi 0,Vi 0,Vi 0,Vi 0,Vi 0,Vi 0] 117)=y/\Bw E y/\VR y E.heap.size E.heap.size 2 [f1,f2]:=⟨_,rfl,Ai,by rw[<-ad,<-ae];exact World.ownsRow_lit E (Es [⟨1,2,r,0,0,0,0,0,0,0,0⟩,⟨1,18,0,r,0,0,0,0,0,0,0⟩]).toArray 2 BQ (by unfold maxLen;omega) rfl⟩
 rw[aB];have w8:=X8.F.size;have aC:g2<E.heap.size:=WB O8 rfl;obtain⟨fb,af⟩:=Au E.heap.size;rw[af]at o9 aC w8⊢;have X9:=hxy (X8.below b9);have O9:=hxy (BM O8 b9);have F9:=hxy (ES o9 w8);have aM:fb<U.heap.size:=WB o9 rfl;clear aB b9 o9 X8 O8 ad ae af;obtain⟨s3,aw⟩:∃e:SV,(⟨3,0,0,0,0,0,0,2,(zs.length:Int),0,0⟩:SV)=e:=⟨_,rfl⟩
 obtain⟨aN,B,o,aF⟩:∃y,U.alloc (.cells #[Vi 3,Vi 0,Vi 0,Vi 0,Vi 0,Vi 0,Vi 0,Vi 2,Vi zs.length,Vi 0,Vi 0] 117)=y/\Bw U y/\VR y U.heap.size U.heap.size 1 [s3]:=⟨_,rfl,Ai,by rw[<-aw];exact World.ownsRow_lit U (Es [⟨3,0,0,0,0,0,0,2,(zs.length:Int),0,0⟩]).toArray 1 BQ (by unfold maxLen;omega) rfl⟩
 obtain⟨g3,c3,aG,m,z,Q,aj⟩:=Ju aN w.heap.size fb 2 [f1,f2] (BM F9 o) _ U.heap.size 1 [s3] aF AX (X9.below o).F.size;obtain⟨fs,O⟩:=Au ([f1,f2]++[s3]);rw[O]at m z;have ap:fs.length=3:=by rw[<-O];rfl
 have L:=(X9.below o).grow Q w8;have aa:VR aG w.heap.size g2 c2 zs:=VR.grow (BM O9 o) Q AB;obtain⟨g4,c4,aO,q,S,ak,am⟩:=Ju aG w.heap.size g3 c3 fs z _ g2 c2 zs aa (by have:=Z.out;have:=HZ.out;omega) L.F.size;obtain⟨al,N⟩:=Au (fs++zs);rw[N]at q S;have an:al.length=s.length+5:=by rw[<-N,List.length_append,ap,HZ.out];omega
 have aI:Hid (SZ w p A n l aO):=L.grow ak (Hz z rfl);have aH:=hxy S;have HA:=hxy an;rw[<-B]at m;clear B o aF z Q aj L aa S ak am X9 O9 F9 aw O N an ap w8 aC aM;obtain⟨k',aP⟩:∃j:Nat,k=j+1:=⟨k-1,AB⟩
 have hm:IntKind.i64.wrap ((k:Int)-1)=(k':Int):=by rw[IntKind.wrap_i64]<;>omega
 go_wp2_with(first|(at_builtin;refine FO rfl _ _ 27 rfl rfl rfl m ?_)|(at_builtin;refine FO rfl _ _ 27 rfl rfl rfl q ?_));go_roundw
 case rel=>exact⟨k',g4,c4,al,rfl,rfl,AB,by have:=Z.out;have:=HA.out;omega,aI,aH⟩
 case measure=>simp[intOf];omega
end Go.Proofs.YtcjnmdgomocpgaaGreatDoor
