import Derived.Test.YtcjnmdgomocpgaaGreatDoorOfLowLab
set_option maxHeartbeats 32000000
set_option maxRecDepth 20000
namespace Go.Proofs.YtcjnmdgomocpgaaGreatDoor
open Go.RowKit
variable {B:Nat}{w:World}
def SX(w0:World)(lb:Nat)(L:Nat->SV)(i te:Nat)(tv:Value):Prop:=
 ∀(w:World)(v:Value)(xs:List NV),Below lb w0 w->LP w lb v xs->xs.length+(CF L xs.length i te).length<=4000->Ks 34 #[Vq lb,tv] w fun e w'=>e=.returned (.tuple #[])/\∃v',LP w' lb v' (xs++CF L xs.length i te)/\Stp lb (fun _=>False) w v w' v'
theorem Stp.low{C j:World}{E:Nat->Prop}{v D:Value}{l:List NV}(h:Stp B E w v j D)(b:Below B C w)(a:LP w B v l)(c:∀k,k<B->¬E k):Below B C j:=
 b.trans (h.x.below (by have:=a.lt;omega) (fun k d e=>by
  rcases e with e|e|e
  ·omega
  ·have:=(a.O.lt _ e).1;omega
  ·exact c k d e))
theorem Um(w0:World)(d:Nat)(L:Nat->SV)(p a:Nat)(R cond:Int)(n:Option Addr)(I E:Nat)(h1:SX w0 d L (p+1) (p+1+a) (.slice n I E))(w:World)(v:Value)(l u:List NV)(hB:Below d w0 w)(hP:LP w d v l)(hx:CF L (l.length+1) (p+1) (p+1+a)=u)(hn:l.length+2+u.length<=4000):
 Ks 73 #[Vq d,.agg #[Vi R,Vi cond,.slice n I E]] w fun e w'=>e=.returned (.tuple #[])/\∃v',LP w' d v' (l++BP (CZ cond) ((l.length+2+u.length:Nat):Int)::(u++[BP 29 (l.length:Int)]))/\Stp d (fun _=>False) w v w' v':=by
 have H1:=hxy h1;have aQ:=hxy hx;clear h1 hx;have H:=hxy hP;have HB:=hxy hB;have lt:=hP.lt;obtain⟨A,a7⟩:=Au l.length;have HH:=hxy a7;have a8:∀k,w.heap.size<=k->v.ownBlock≠some k:=fun k hk e=>by have:=(hP.O.lt _ e).2;omega
 have s:=hxy a8;clear hP hB a7 a8;go_enter Tryz.func73,Tryz.ntmps73;obtain⟨u0,a9,a6,aO⟩:∃y,w.alloc (.cells #[Vi R,Vi cond,.slice n I E] 160)=y/\Bw w y/\Cl y w.heap.size [Vi R,Vi cond,.slice n I E]:=⟨_,rfl,Ai,Cl.new⟩
 obtain⟨z,af⟩:=Au w.heap.size;have aP:=hxy a9;have C0:Hid (Cl u0 z [Vi R,Vi cond,.slice n I E]):=af▸aO;have B0:=hxy a6;have o:=hxy af;have bp:d<z:=AB;have zx:z<u0.heap.size:=af▸aO.1;clear a9 a6 aO af;go_upto_region 1 with fail;rw[aP.out];go_wp2_with fail;refine(KH d u0).mono ?_;rintro e u1⟨rfl,ae,ag⟩;obtain⟨b,S⟩:=Au u0.heap.size;rw[S]at ae ag zx⊢;have m:=hxy ag;have B1:Hid (Bw w u1):=B0.trans (ae.mono (by have:=o.out;omega));have C1:Hid (Cl u1 z [Vi R,Vi cond,.slice n I E]):=C0.below (S▸ae);have z1:=ag.B.1;clear ae ag S C0 B0;go_wp2_with fail;refine(KH d u1).mono ?_;rintro e u2⟨rfl,r,ah⟩;obtain⟨j,q⟩:=Au u1.heap.size;rw[q]at r ah z1⊢;have aU:=hxy ah;have B2:Hid (Bw w u2):=B1.trans (r.mono (by have:=o.out;omega));have S2:Hid (Stp d (fun _=>False) w v u2 v):=⟨Lx.of_below B2,.inl rfl⟩
 have P2:Hid (LP u2 d v l):=⟨(B2.cell (p:=Va d 0) lt).trans H.C,Ey lt B2.size,fun i=>(B2.frozen (p:=Va d i) lt).trans (H.F i),FQ H.O B2⟩
 have C2:Hid (Cl u2 z [Vi R,Vi cond,.slice n I E]):=C1.below (q▸r);have sb:=o.out;have aR:Hid (TB u2 d b (b+1) (b+1+1) (b+1+1+1) (.slice none 0 0) 0):=⟨m.X.below (q▸r),m.J.below (q▸r),m.P.below (q▸r),m.B.below (q▸r),fun i=>(r.frozen (p:=⟨b+1,i,none⟩) (by show b+1<_;omega)).trans (m.JF i),fun i=>(r.frozen (p:=⟨b+1+1,i,none⟩) (by show b+1+1<_;omega)).trans (m.PF i),m.n1,m.n2,m.n3,m.n4,m.n5,m.n6⟩
 have aN:Hid (Pn d v b (b+1) (b+1+1) (b+1+1+1)):=⟨⟨AB,AB,AB,AB⟩,s _ AB,s _ AB,s _ AB,s _ AB⟩
 have aY:Hid (Pn d v j (j+1) (j+1+1) (j+1+1+1)):=⟨⟨AB,AB,AB,AB⟩,s _ AB,s _ AB,s _ AB,s _ AB⟩
 have N2:Hid (v.ownBlock≠some z):=s.out _ AB;have z2:=ah.B.1;clear r ah q m C1 B1 aP sb;go_wp2_with fail;refine(Za d b (b+1) (b+1+1) (b+1+1+1) 0 v l u2 aR P2 aN).mono ?_;rintro e u3⟨rfl,D,hl,c⟩;have ab:=aU.step aY c (show¬j=(b+1+1)by omega) (show¬(j+1)=(b+1+1)by omega) (show¬(j+1+1)=(b+1+1)by omega) (show¬(j+1+1+1)=(b+1+1)by omega);have al:=hxy ab.1;have ar:=hxy ab.2;clear ab;have M:Hid (Cl u3 z [Vi R,Vi cond,.slice n I E]):=c.cl C2 AB N2 (show¬z=(b+1+1)by omega);have aI:=hxy (c.nb C2.1 N2);have aT:Hid (TB u3 d b (b+1) (b+1+1) (b+1+1+1) (.slice none 0 0) (A:Int)):=(by have h:=hl;rw[HH.out]at h;exact h:TB u3 d b (b+1) (b+1+1) (b+1+1+1) (.slice none 0 0) (A:Int))
 have aw:=hxy ((D:LP u3 d v l));have a2:Hid (Stp d (fun _=>False) w v u3 v):=S2.trans c (fun k hk h=>by have h2:k=(b+1+1):=h;have:=o.out;omega);have bf:=c.x.size;clear D c hl aU aY C2 N2 aR P2;have y1:u3.cell? ⟨w.heap.size,1,none⟩=some (Vi cond):=(by rw[o.out];exact M.2 1 AX)
 have yl:w.heap.size<u3.heap.size:=(by rw[o.out];exact M.1)
 go_wp2_with fail;refine(LV cond _).mono ?_;rintro e u'⟨rfl,hw⟩;rw[hw];clear hw y1 yl;go_wp2_with fail;refine(Hw d j (j+1) (j+1+1) (j+1+1+1) 0 (CZ cond) v l u3 al aw (by have:=HH.out;omega) ar).mono ?_;rintro e u4⟨rfl,v4,r2,ba,D,hl,hj,hz,U,ho,c⟩;have Y:=aT.step aN c (show¬b=(j+1)by omega) (show¬(b+1)=(j+1)by omega) (show¬(b+1+1)=(j+1)by omega) (show¬(b+1+1+1)=(j+1)by omega);have aj:=hxy Y.1;have ao:=hxy Y.2;clear Y;have N:Hid (Cl u4 z [Vi R,Vi cond,.slice n I E]):=c.cl M AB aI (show¬z=(j+1)by omega);have aJ:=hxy (c.nb M.1 aI);have aV:=hxy hl;have aZ:=hxy ho;have aC:Hid (Cl u4 r2 [Vi (A:Int)]):=(by have h:=hj;rw[HH.out]at h;exact h:Cl u4 r2 [Vi (A:Int)])
 have aH:=hxy U;have bo:=hz;have ax:=hxy ((D:LP u4 d v4 (l++[BP (CZ cond) 0])));have aA:Hid (Stp d (fun _=>False) w v u4 v4):=a2.trans c (fun k hk h=>by have h2:k=(j+1):=h;have:=o.out;omega);have bg:=c.x.size;clear D c hl hj hz U ho aT aN M aI al ar aw;have y2:u4.cell? ⟨w.heap.size,2,none⟩=some (.slice n I E):=(by rw[o.out];exact N.2 2 AX)
 have yl:w.heap.size<u4.heap.size:=(by rw[o.out];exact N.1)
 go_wp2_with fail;clear y2 yl;have aF:Hid ((l++[BP (CZ cond) 0]).length=l.length+1):=(by simp:(l++[BP (CZ cond) 0]).length=l.length+1)
 have BL:Below d w0 u4:=aA.low HB H (fun _ _ h=>h);have hc:=H1.out u4 v4 (l++[BP (CZ cond) 0]) BL ax (by rw[aF.out,aQ.out];omega);rw[aF.out,aQ.out]at hc;refine hc.mono ?_;rintro e u5⟨rfl,v5,D,c⟩;have Z:=aj.step ao c (fun h=>h) (fun h=>h) (fun h=>h) (fun h=>h);have ak:=hxy Z.1;have ap:=hxy Z.2;clear Z;have ac:=aV.step aZ c (fun h=>h) (fun h=>h) (fun h=>h) (fun h=>h);have am:=hxy ac.1;have au:=hxy ac.2;clear ac;have aD:Hid (Cl u5 z [Vi R,Vi cond,.slice n I E]):=c.cl N AB aJ (fun h=>h);have aK:=hxy (c.nb N.1 aJ);have K:Hid (Cl u5 r2 [Vi (A:Int)]):=c.cl aC AB aH (fun h=>h);have Q:=hxy (c.nb aC.1 aH);have ay:=hxy ((D:LP u5 d v5 (l++[BP (CZ cond) 0]++u)));have a3:Hid (Stp d (fun _=>False) w v u5 v5):=aA.trans c (fun k hk h=>h);have bh:=c.x.size;clear D c hc BL aj ao aV aZ N aJ aC aH ax;go_wp2_with fail;refine(Hw d b (b+1) (b+1+1) (b+1+1+1) (A:Int) 29 v5 (l++[BP (CZ cond) 0]++u) u5 ak ay (by simp only[List.length_append];simp;omega) ap).mono ?_;rintro e u6⟨rfl,v6,r1,bm,D,hl,hj,hz,U,ho,c⟩;have ad:=am.step au c (show¬j=(b+1)by omega) (show¬(j+1)=(b+1)by omega) (show¬(j+1+1)=(b+1)by omega) (show¬(j+1+1+1)=(b+1)by omega);have an:=hxy ad.1;have av:=hxy ad.2;clear ad;have aE:Hid (Cl u6 z [Vi R,Vi cond,.slice n I E]):=c.cl aD AB aK (show¬z=(b+1)by omega);have aM:=hxy (c.nb aD.1 aK);have ai:Hid (Cl u6 r2 [Vi (A:Int)]):=c.cl K AB Q (show¬r2=(b+1)by omega);have aW:=hxy (c.nb K.1 Q);have aS:=hxy hl;have aX:=hxy ho;have aB:Hid (Cl u6 r1 [Vi (A+1+u.length:Int)]):=(by have h:=hj;rw[show(l++[BP (CZ cond) 0]++u).length=A+1+u.length by rw[List.length_append,aF.out,HH.out]]at h;exact h:Cl u6 r1 [Vi (A+1+u.length:Int)])
 have aG:=hxy U;have bn:=hz;have az:=hxy ((D:LP u6 d v6 (l++[BP (CZ cond) 0]++u++[BP 29 (A:Int)])));have a4:Hid (Stp d (fun _=>False) w v u6 v6):=a3.trans c (fun k hk h=>by have h2:k=(b+1):=h;have:=o.out;omega);have bi:=c.x.size;clear D c hl hj hz U ho am au aD aK K Q ak ap ay;go_wp2_with fail;refine(Np d j (j+1) (j+1+1) (j+1+1+1) r2 ba A 0 v6 l (u++[BP 29 (A:Int)]) (BP (CZ cond) 0) u6 ai HH AB an (by have h:=az.out;simpa using h) av).mono ?_;rintro e u7⟨rfl,D,c⟩;have aa:=aS.step aX c (show¬b=(j+1+1)by omega) (show¬(b+1)=(j+1+1)by omega) (show¬(b+1+1)=(j+1+1)by omega) (show¬(b+1+1+1)=(j+1+1)by omega);have bc:=hxy aa.1;have be:=hxy aa.2;clear aa;have bk:Hid (Cl u7 z [Vi R,Vi cond,.slice n I E]):=c.cl aE AB aM (show¬z=(j+1+1)by omega);have bl:=hxy (c.nb aE.1 aM);have bb:Hid (Cl u7 r1 [Vi (A+1+u.length:Int)]):=c.cl aB AB aG (show¬r1=(j+1+1)by omega);have bd:=hxy (c.nb aB.1 aG);have a1:Hid (LP u7 d v6 (l++BP (CZ cond) ((l.length+2+u.length:Nat):Int)::(u++[BP 29 (l.length:Int)]))):=(by have h:=D;rw[show((l++BP (CZ cond) 0::(u++[BP 29 (A:Int)])).length:Int)=((l.length+2+u.length:Nat):Int)by simp;omega,<-HH.out]at h;exact h:LP u7 d v6 (l++BP (CZ cond) ((l.length+2+u.length:Nat):Int)::(u++[BP 29 (l.length:Int)])))
 have a5:Hid (Stp d (fun _=>False) w v u7 v6):=a4.trans c (fun k hk h=>by have h2:k=(j+1+1):=h;have:=o.out;omega);have bj:=c.x.size;clear D c aS aX aE aM aB aG an av ai aW az;go_wp2;go_end0;exact⟨rfl,v6,a1,a5⟩
theorem QM(w0:World)(m:Nat)(L:Nat->SV)(p a b:Nat)(Q cond:Int)(n:Option Addr)(M I:Nat)(o:Option Addr)(N K:Nat)(h1:SX w0 m L (p+1) (p+1+a) (.slice n M I))(h2:SX w0 m L (p+1+a) (p+1+a+b) (.slice o N K))(w:World)(v:Value)(d j R:List NV)(hB:Below m w0 w)(hP:LP w m v d)(hx:CF L (d.length+1) (p+1) (p+1+a)=j)(hy:CF L (d.length+2+j.length) (p+1+a) (p+1+a+b)=R)(hn:d.length+2+j.length+R.length<=4000):
 Ks 72 #[Vq m,.agg #[Vi Q,Vi cond,.slice n M I,.slice o N K]] w fun e w'=>e=.returned (.tuple #[])/\∃v',LP w' m v' (d++BP (CZ cond) ((d.length+2+j.length:Nat):Int)::(j++BP 29 ((d.length+2+j.length+R.length:Nat):Int)::R))/\Stp m (fun _=>False) w v w' v':=by
 have H1:=hxy h1;have H2:=hxy h2;have a4:=hxy hx;have a5:=hxy hy;clear h1 h2 hx hy;have H:=hxy hP;have HB:=hxy hB;have lt:=hP.lt;obtain⟨hh,bm⟩:=Au d.length;have HH:=hxy bm;have bn:∀k,w.heap.size<=k->v.ownBlock≠some k:=fun k hk e=>by have:=(hP.O.lt _ e).2;omega
 have A:=hxy bn;clear hP hB bm bn;go_enter Tryz.func72,Tryz.ntmps72;obtain⟨u0,bo,bl,a1⟩:∃y,w.alloc (.cells #[Vi Q,Vi cond,.slice n M I,.slice o N K] 157)=y/\Bw w y/\Cl y w.heap.size [Vi Q,Vi cond,.slice n M I,.slice o N K]:=⟨_,rfl,Ai,Cl.new⟩
 obtain⟨E,al⟩:=Au w.heap.size;have a3:=hxy bo;have C0:Hid (Cl u0 E [Vi Q,Vi cond,.slice n M I,.slice o N K]):=al▸a1;have B0:=hxy bl;have r:=hxy al;have bF:m<E:=AB;have zx:E<u0.heap.size:=al▸a1.1;clear bo bl a1 al;go_upto_region 1 with fail;rw[a3.out];go_wp2_with fail;refine(KH m u0).mono ?_;rintro e u1⟨rfl,ak,am⟩;obtain⟨l,ac⟩:=Au u0.heap.size;rw[ac]at ak am zx⊢;have s:=hxy am;have B1:Hid (Bw w u1):=B0.trans (ak.mono (by have:=r.out;omega));have C1:Hid (Cl u1 E [Vi Q,Vi cond,.slice n M I,.slice o N K]):=C0.below (ac▸ak);have z1:=am.B.1;clear ak am ac C0 B0;go_wp2_with fail;refine(KH m u1).mono ?_;rintro e u2⟨rfl,z,an⟩;obtain⟨q,u⟩:=Au u1.heap.size;rw[u]at z an z1⊢;have a8:=hxy an;have B2:Hid (Bw w u2):=B1.trans (z.mono (by have:=r.out;omega));have S2:Hid (Stp m (fun _=>False) w v u2 v):=⟨Lx.of_below B2,.inl rfl⟩
 have P2:Hid (LP u2 m v d):=⟨(B2.cell (p:=Va m 0) lt).trans H.C,Ey lt B2.size,fun i=>(B2.frozen (p:=Va m i) lt).trans (H.F i),FQ H.O B2⟩
 have C2:Hid (Cl u2 E [Vi Q,Vi cond,.slice n M I,.slice o N K]):=C1.below (u▸z);have sb:=r.out;have a6:Hid (TB u2 m l (l+1) (l+1+1) (l+1+1+1) (.slice none 0 0) 0):=⟨s.X.below (u▸z),s.J.below (u▸z),s.P.below (u▸z),s.B.below (u▸z),fun i=>(z.frozen (p:=⟨l+1,i,none⟩) (by show l+1<_;omega)).trans (s.JF i),fun i=>(z.frozen (p:=⟨l+1+1,i,none⟩) (by show l+1+1<_;omega)).trans (s.PF i),s.n1,s.n2,s.n3,s.n4,s.n5,s.n6⟩
 have bc:Hid (Pn m v l (l+1) (l+1+1) (l+1+1+1)):=⟨⟨AB,AB,AB,AB⟩,A _ AB,A _ AB,A _ AB,A _ AB⟩
 have be:Hid (Pn m v q (q+1) (q+1+1) (q+1+1+1)):=⟨⟨AB,AB,AB,AB⟩,A _ AB,A _ AB,A _ AB,A _ AB⟩
 have N2:Hid (v.ownBlock≠some E):=A.out _ AB;have z2:=an.B.1;clear z an u s C1 B1 a3 sb;have y1:u2.cell? ⟨w.heap.size,1,none⟩=some (Vi cond):=(by rw[r.out];exact C2.2 1 AX)
 have yl:w.heap.size<u2.heap.size:=(by rw[r.out];exact C2.1)
 go_wp2_with fail;refine(LV cond _).mono ?_;rintro e u'⟨rfl,hw⟩;rw[hw];clear hw y1 yl;go_wp2_with fail;refine(Hw m l (l+1) (l+1+1) (l+1+1+1) 0 (CZ cond) v d u2 a6 P2 (by have:=HH.out;omega) bc).mono ?_;rintro e u3⟨rfl,v3,r1,bp,D,hl,hj,hz,ad,ho,c⟩;have ag:=a8.step be c (show¬q=(l+1)by omega) (show¬(q+1)=(l+1)by omega) (show¬(q+1+1)=(l+1)by omega) (show¬(q+1+1+1)=(l+1)by omega);have av:=hxy ag.1;have aB:=hxy ag.2;clear ag;have Y:Hid (Cl u3 E [Vi Q,Vi cond,.slice n M I,.slice o N K]):=c.cl C2 AB N2 (show¬E=(l+1)by omega);have aV:=hxy (c.nb C2.1 N2);have a7:=hxy hl;have bd:=hxy ho;have aN:Hid (Cl u3 r1 [Vi (hh:Int)]):=(by have h:=hj;rw[HH.out]at h;exact h:Cl u3 r1 [Vi (hh:Int)])
 have aT:=hxy ad;have bD:=hz;have aF:=hxy ((D:LP u3 m v3 (d++[BP (CZ cond) 0])));have aK:Hid (Stp m (fun _=>False) w v u3 v3):=S2.trans c (fun k hk h=>by have h2:k=(l+1):=h;have:=r.out;omega);have br:=c.x.size;clear D c hl hj hz ad ho a8 be C2 N2 a6 bc P2;have y2:u3.cell? ⟨w.heap.size,2,none⟩=some (.slice n M I):=(by rw[r.out];exact Y.2 2 AX)
 have yl:w.heap.size<u3.heap.size:=(by rw[r.out];exact Y.1)
 go_wp2_with fail;clear y2 yl;have aS:Hid ((d++[BP (CZ cond) 0]).length=d.length+1):=(by simp:(d++[BP (CZ cond) 0]).length=d.length+1)
 have BL:Below m w0 u3:=aK.low HB H (fun _ _ h=>h);have hc:=H1.out u3 v3 (d++[BP (CZ cond) 0]) BL aF (by rw[aS.out,a4.out];omega);rw[aS.out,a4.out]at hc;refine hc.mono ?_;rintro e u4⟨rfl,v4,D,c⟩;have ae:=a7.step bd c (fun h=>h) (fun h=>h) (fun h=>h) (fun h=>h);have ar:=hxy ae.1;have az:=hxy ae.2;clear ae;have ah:=av.step aB c (fun h=>h) (fun h=>h) (fun h=>h) (fun h=>h);have aw:=hxy ah.1;have aC:=hxy ah.2;clear ah;have aP:Hid (Cl u4 E [Vi Q,Vi cond,.slice n M I,.slice o N K]):=c.cl Y AB aV (fun h=>h);have aW:=hxy (c.nb Y.1 aV);have S:Hid (Cl u4 r1 [Vi (hh:Int)]):=c.cl aN AB aT (fun h=>h);have aa:=hxy (c.nb aN.1 aT);have aG:=hxy ((D:LP u4 m v4 (d++[BP (CZ cond) 0]++j)));have bh:Hid (Stp m (fun _=>False) w v u4 v4):=aK.trans c (fun k hk h=>h);have bs:=c.x.size;clear D c hc BL a7 bd av aB Y aV aN aT aF;go_wp2_with fail;refine(Hw m q (q+1) (q+1+1) (q+1+1+1) 0 29 v4 (d++[BP (CZ cond) 0]++j) u4 aw aG (by simp only[List.length_append];simp;omega) aC).mono ?_;rintro e u5⟨rfl,v5,r2,bq,D,hl,hj,hz,ad,ho,c⟩;have af:=ar.step az c (show¬l=(q+1)by omega) (show¬(l+1)=(q+1)by omega) (show¬(l+1+1)=(q+1)by omega) (show¬(l+1+1+1)=(q+1)by omega);have au:=hxy af.1;have aA:=hxy af.2;clear af;have aQ:Hid (Cl u5 E [Vi Q,Vi cond,.slice n M I,.slice o N K]):=c.cl aP AB aW (show¬E=(q+1)by omega);have aX:=hxy (c.nb aP.1 aW);have ao:Hid (Cl u5 r1 [Vi (hh:Int)]):=c.cl S AB aa (show¬r1=(q+1)by omega);have ba:=hxy (c.nb S.1 aa);have a9:=hxy hl;have bf:=hxy ho;have aO:Hid (Cl u5 r2 [Vi (hh+1+j.length:Int)]):=(by have h:=hj;rw[show(d++[BP (CZ cond) 0]++j).length=hh+1+j.length by rw[List.length_append,aS.out,HH.out]]at h;exact h:Cl u5 r2 [Vi (hh+1+j.length:Int)])
 have aU:=hxy ad;have bE:=hz;have aH:=hxy ((D:LP u5 m v5 (d++[BP (CZ cond) 0]++j++[BP 29 0])));have bi:Hid (Stp m (fun _=>False) w v u5 v5):=bh.trans c (fun k hk h=>by have h2:k=(q+1):=h;have:=r.out;omega);have bu:=c.x.size;clear D c hl hj hz ad ho ar az aP aW S aa aw aC aG;go_wp2_with fail;refine(Np m l (l+1) (l+1+1) (l+1+1+1) r1 bp hh 0 v5 d (j++[BP 29 0]) (BP (CZ cond) 0) u5 ao HH AB au (by have h:=aH.out;simpa using h) aA).mono ?_;rintro e u6⟨rfl,D,c⟩;have ai:=a9.step bf c (show¬q=(l+1+1)by omega) (show¬(q+1)=(l+1+1)by omega) (show¬(q+1+1)=(l+1+1)by omega) (show¬(q+1+1+1)=(l+1+1)by omega);have ax:=hxy ai.1;have aD:=hxy ai.2;clear ai;have Z:Hid (Cl u6 E [Vi Q,Vi cond,.slice n M I,.slice o N K]):=c.cl aQ AB aX (show¬E=(l+1+1)by omega);have aY:=hxy (c.nb aQ.1 aX);have U:Hid (Cl u6 r2 [Vi (hh+1+j.length:Int)]):=c.cl aO AB aU (show¬r2=(l+1+1)by omega);have ab:=hxy (c.nb aO.1 aU);have aI:Hid (LP u6 m v5 (d++BP (CZ cond) ((d.length+2+j.length:Nat):Int)::(j++[BP 29 0]))):=(by have h:=D;rw[show((d++BP (CZ cond) 0::(j++[BP 29 0])).length:Int)=((d.length+2+j.length:Nat):Int)by simp;omega]at h;exact h:LP u6 m v5 (d++BP (CZ cond) ((d.length+2+j.length:Nat):Int)::(j++[BP 29 0])))
 have aM:Hid (Stp m (fun _=>False) w v u6 v5):=bi.trans c (fun k hk h=>by have h2:k=(l+1+1):=h;have:=r.out;omega);have bv:=c.x.size;clear D c a9 bf aQ aX aO aU au aA ao ba aH;have y3:u6.cell? ⟨w.heap.size,3,none⟩=some (.slice o N K):=(by rw[r.out];exact Z.2 3 AX)
 have yl:w.heap.size<u6.heap.size:=(by rw[r.out];exact Z.1)
 go_wp2_with fail;clear y3 yl;have a2:Hid ((d++BP (CZ cond) ((d.length+2+j.length:Nat):Int)::(j++[BP 29 0])).length=d.length+2+j.length):=(by simp;omega:(d++BP (CZ cond) ((d.length+2+j.length:Nat):Int)::(j++[BP 29 0])).length=d.length+2+j.length)
 have BL:Below m w0 u6:=aM.low HB H (fun _ _ h=>h);have hc:=H2.out u6 v5 (d++BP (CZ cond) ((d.length+2+j.length:Nat):Int)::(j++[BP 29 0])) BL aI (by rw[a2.out,a5.out];omega);rw[a2.out,a5.out]at hc;refine hc.mono ?_;rintro e u7⟨rfl,v7,D,c⟩;have aj:=ax.step aD c (fun h=>h) (fun h=>h) (fun h=>h) (fun h=>h);have ay:=hxy aj.1;have aE:=hxy aj.2;clear aj;have aR:Hid (Cl u7 E [Vi Q,Vi cond,.slice n M I,.slice o N K]):=c.cl Z AB aY (fun h=>h);have aZ:=hxy (c.nb Z.1 aY);have ap:Hid (Cl u7 r2 [Vi (hh+1+j.length:Int)]):=c.cl U AB ab (fun h=>h);have bb:=hxy (c.nb U.1 ab);have aJ:=hxy ((D:LP u7 m v7 (d++BP (CZ cond) ((d.length+2+j.length:Nat):Int)::(j++[BP 29 0])++R)));have bj:Hid (Stp m (fun _=>False) w v u7 v7):=aM.trans c (fun k hk h=>h);have bw:=c.x.size;clear D c hc BL ax aD Z aY U ab aI;go_wp2_with fail;refine(Np m q (q+1) (q+1+1) (q+1+1+1) r2 bq (hh+1+j.length) 0 v7 (d++BP (CZ cond) ((d.length+2+j.length:Nat):Int)::j) R (BP 29 0) u7 ap (by have:=HH.out;simp;omega) AB ay (by have h:=aJ.out;simpa using h) aE).mono ?_;rintro e u8⟨rfl,D,c⟩;have bB:Hid (Cl u8 E [Vi Q,Vi cond,.slice n M I,.slice o N K]):=c.cl aR AB aZ (show¬E=(q+1+1)by omega);have bC:=hxy (c.nb aR.1 aZ);have bg:Hid (LP u8 m v7 (d++BP (CZ cond) ((d.length+2+j.length:Nat):Int)::(j++BP 29 ((d.length+2+j.length+R.length:Nat):Int)::R))):=(by have h:=D;rw[show((d++BP (CZ cond) ((d.length+2+j.length:Nat):Int)::j++BP 29 0::R).length:Int)=((d.length+2+j.length+R.length:Nat):Int)by simp;omega,List.append_assoc,List.cons_append]at h;exact h:LP u8 m v7 (d++BP (CZ cond) ((d.length+2+j.length:Nat):Int)::(j++BP 29 ((d.length+2+j.length+R.length:Nat):Int)::R)))
 have bk:Hid (Stp m (fun _=>False) w v u8 v7):=bj.trans c (fun k hk h=>by have h2:k=(q+1+1):=h;have:=r.out;omega);have bA:=c.x.size;clear D c aR aZ ay aE ap bb aJ;go_wp2;go_end0;exact⟨rfl,v7,bg,bk⟩
theorem Xk{x:Int}:NQ x+1<=2000↔x<2000:=by unfold NQ;split<;>omega
theorem Ox(b n l:Nat)(L:Nat->SV)(w:World)(O:n<=1048576)(J:Ak w b (n*11) (JW L)):
 Ks 30 #[Vs b n l] w fun e w'=>e=.returned (.bool (decide (Hq L n)))/\Below w.heap.size w w':=by
 obtain⟨k,a⟩:=Au (decide (Hq L n));rw[a];have q:=hxy a;have y:=hxy J;clear a J;go_enter Tryz.func30,Tryz.ntmps30;by_cases K:n<=2000
 rotate_left
 ·have X:decide ((2000:Int)<(n:Int))=true:=by simp;omega
  obtain rfl:false=k:=by rw[<-q.out];exact(decide_eq_false (fun h=>K h.1)).symm
  go_wp2;go_ret;exact⟨rfl,Below.refl _ _⟩
 have X:decide ((2000:Int)<(n:Int))=false:=by simp;omega
 go_wp2_with fail;refine(TM b n l L 0 0 321 O AB AB n 0 n 0 w AB AB BQ AB AB y).mono ?_;rintro e r⟨rfl,m⟩;obtain⟨c,C⟩:=Au (DU L 0 0 321 0 n 0);rw[C];have A:=hxy C;have s:=hxy m;have D:=hxy (y.below m y.lt);have S:=hxy K;clear C m;obtain⟨I,c2⟩:=c;by_cases d:I=0
 rotate_left
 ·have e2:(I==0)=false:=by simp[d]
  obtain rfl:false=k:=by rw[<-q.out];exact(decide_eq_false (fun h=>d (by have:=h.2.1;rw[A.out]at this;exact this))).symm
  clear d;go_wp2;go_ret;exact⟨rfl,s⟩
 subst d;have lw:=s.size;obtain⟨u,M,o,p⟩:∃x,r.alloc (.cells #[] 2)=x/\Bw r x/\At x r.heap.size 0 0 (zF (fun _=>0)):=⟨_,rfl,Ai,AX,fun i hi=>by omega⟩
 have R:=hxy p;have Q:=hxy (D.below o D.lt);have E:=hxy (s.trans (o.mono lw));have U:=hxy M;clear M o p;go_wp2_with fail;rw[U.out];refine(WH b n l L r.heap.size 0 0 (fun _=>0) u O Q R (fun _=>Int.le_refl _) (fun _=>by decide) (fun j Z k4=>by
  have h:=Rw (oO L 0 0 321 _ 0 n 0 BQ (by rw[A.out]) j (Nat.zero_le _) Z) k4;omega)).mono ?_
 rintro e w2⟨rfl,N⟩;rw[N];clear N;obtain⟨z,d⟩:=Au (NQ (Cs L (fun _=>0) n));rw[d];have zb:0<=z/\z<=2001:=by rw[<-d];exact pG (JZ (fun _=>Int.le_refl _) n)
 obtain⟨aa,ab⟩:=zb;have F:=hxy d;clear d;by_cases B:z+1<=2000
 ·have Y:decide (z+1<=2000)=true:=by simp[B]
  obtain rfl:true=k:=by rw[<-q.out];exact(decide_eq_true ⟨S,by rw[A.out],Xk.1 (by rw[F.out];exact B)⟩).symm
  go_wp2;go_ret;exact⟨rfl,E⟩
 ·have Y:decide (z+1<=2000)=false:=by simp;omega
  obtain rfl:false=k:=by rw[<-q.out];exact(decide_eq_false (fun h=>B (by rw[<-F.out];exact Xk.2 h.2.2))).symm
  go_wp2;go_ret;exact⟨rfl,E⟩
theorem Ew.shp{L:Nat->SV}{S:Nat->Prop}:∀(m:Nat){v:Value}{i b:Nat},Ew L m w S v i b->∃(a:Option Addr)(k c:Nat),v=.slice a k c
 |0,_,_,_,h=>⟨_,_,_,h.2⟩
 |_+1,_,_,_,⟨_,hr,_⟩=>Fa hr.1
theorem xB(v:Value)(w:World):(Instr.typeAssert (.iface 155 v) 126 155 true).run Tryz.prog w=.ok (.tuple #[v,.bool true]) w:=AV
theorem vg(v:Value)(w:World):(Instr.typeAssert (.iface 157 v) 126 155 true).run Tryz.prog w=.ok (.tuple #[.agg #[Vi 0,Vi 0,Vi 0,Vi 0,Vi 0,Vi 0,Vi 0],.bool false]) w:=AV
theorem wU(v:Value)(w:World):(Instr.typeAssert (.iface 157 v) 126 157 true).run Tryz.prog w=.ok (.tuple #[v,.bool true]) w:=AV
theorem vw(v:Value)(w:World):(Instr.typeAssert (.iface 160 v) 126 155 true).run Tryz.prog w=.ok (.tuple #[.agg #[Vi 0,Vi 0,Vi 0,Vi 0,Vi 0,Vi 0,Vi 0],.bool false]) w:=AV
theorem vv(v:Value)(w:World):(Instr.typeAssert (.iface 160 v) 126 157 true).run Tryz.prog w=.ok (.tuple #[.agg #[Vi 0,Vi 0,.slice none 0 0,.slice none 0 0],.bool false]) w:=AV
theorem wK(v:Value)(w:World):(Instr.typeAssert (.iface 160 v) 126 160 true).run Tryz.prog w=.ok (.tuple #[v,.bool true]) w:=AV
theorem LP.below{u:World}{v:Value}{a:List NV}(h:LP w B v a)(b:Below w.heap.size w u):LP u B v a:=
 ⟨(b.cell (p:=Va B 0) h.lt).trans h.C,Ey h.lt b.size,fun i=>(b.frozen (p:=Va B i) h.lt).trans (h.F i),FQ h.O b⟩
theorem Stp.of_below{u:World}{E:Nat->Prop}(v:Value)(b:Below w.heap.size w u):Stp B E w v u v:=⟨Lx.of_below b,.inl rfl⟩
theorem Ww(R:World)(z:Nat)(L:Nat->SV)(m i r:Nat)(o:Int)(tv:Value)(S:Nat->Prop)(ba:R.heap.size<=z)
 (hr:Ew L (m+1) R S tv i r)(aZ:i<=r)(bd:r<=2000)(aE:(DU L 0 0 321 i r o).1=0)
 (ih:∀i' aj d v,i<i'->i'<=aj->aj<=r->(DU L 0 0 321 i' aj d).1=0->Ew L m R S v i' aj->SX R z L i' aj v):SX R z L i r tv:=by
 intro w v0 j aD hP aM;obtain⟨ns,U,ay,hx⟩:=hr;obtain⟨a3,kt,ct,a0⟩:=Fa U.1;subst a0;have ac:=hxy U;have aC:=hxy ay;have HX:Hid _:=hx;have aU:=hxy aE;have IH:Hid _:=ih;have al:=hxy aD;have P0:=hxy hP;obtain⟨J,ah⟩:=Au (CF L j.length i r);rw[ah]at aM⊢;have aA:=hxy ah;have aw:kt=ns.length:=by
  rcases U.1.2 with⟨e,e2⟩|⟨g,a4,a6,e,_⟩
  ·have:=(Value.slice.inj e).2.1;omega
  ·exact(Value.slice.inj e).2.1
 have a9:kt<=2000:=by rw[aw,ay];exact Nat.le_trans (OP L _ i r BQ) AB
 have Q:=hxy aw;clear U ay hx aE ih aD hP ah aw;go_enter Tryz.func34,Tryz.ntmps34;go_wp2;go_loopw [11](fun iv wr=>∃(q p:Nat)(v:Value)(c:List NV),q<=kt/\i<=p/\p<=r/\iv=Vi (q:Int)/\LP wr z v (j++c)/\Stp z (fun _=>False) w v0 wr v/\c++CF L (j++c).length p r=J/\(D8 L i r).drop q=D8 L p r/\(DU L 0 0 321 p r o).1=0)(fun iv _=>kt-(intOf iv).toNat)
 case atStart=>exact⟨0,i,v0,[],Nat.zero_le _,BQ,aZ,rfl,by rw[List.append_nil];exact P0,Stp.refl _ _ _ _,by rw[List.append_nil];exact aA,AX,aU⟩
 case round=>
  obtain⟨q,p,v,c,hq,a8,bb,rfl,hp,hs,hd,aG,hc⟩:=hrel;have P1:=hxy hp;have S1:=hxy hs;have HD:=hxy hd;have aa:=hxy aG;have HK:=hxy hc;have B1:Hid (Below z R wr):=hs.low al P0 (fun _ _ h=>h);have aH:(j++c).length+(CF L (j++c).length p r).length<=4000:=by
   have h:=aM;rw[<-hd]at h;simp only[List.length_append]at h⊢;omega
  have ao:=hxy aH;clear hp hs hd aG hc aH;by_cases D:p<r
  rotate_left
  ·have bc:q=kt:=by
    have h:=congrArg List.length aa;rw[List.length_drop,<-aC.out,<-Q.out,GZ D]at h;simp at h;omega
   have aK:¬(q:Int)<(kt:Int):=AB;have av:c=J:=by have:=HD.out;rw[IJ D,List.append_nil]at this;exact this
   subst av;go_wp2;go_end0;exact⟨rfl,v,P1,S1⟩
  have aJ:q<kt:=by
   have h:=congrArg List.length aa;rw[List.length_drop,<-aC.out,<-Q.out,Dm D]at h;simp at h;omega
  have aK:(q:Int)<(kt:Int):=AB;obtain⟨gt,a5,aN⟩:=Ii ac.1 (by rw[<-Q.out];omega);obtain⟨rfl,hz,rfl⟩:=Value.slice.inj aN;clear hz;have aV:Hid (R.ownsRow 0 126 1 (Vs gt ns.length ct) ns.length ns):=(by have:=ac.1;rwa [Q.out]at this:R.ownsRow 0 126 1 (Vs gt ns.length ct) ns.length ns)
  obtain⟨x,az⟩:∃x,ns[q]?=some x:=⟨ns[q]'(by rw[<-Q.out];exact aJ),by simp[<-Q.out,aJ]⟩
  have aI:(D8 L i r)[q]?=some p:=by
   have h:=congrArg (fun l=>l[0]?) aa;simp only[Dm D,List.getElem?_drop,Nat.add_zero,List.getElem?_cons_zero]at h;exact h
  have aF:(D8 L i r).drop (q+1)=D8 L (p+1+(L p).thn.toNat+(L p).els.toNat) r:=by
   have h:=congrArg (List.drop 1) aa;rw[List.drop_drop,Dm D]at h;simpa[Nat.add_comm]using h
  have a2:gt<z:=by have:=(ac.1.lt gt rfl).2;omega
  have g0:wr.cell? (Va gt q)=some x:=by
   rw[B1.cell (p:=Va gt q) a2,aV.cellAt q (by rw[<-Q.out];omega)];exact az
  obtain⟨aS,ak,aP,aQ,aR⟩:=FX HK D;have ad:=hxy aS;have aB:Hid _:=aP;have aT:Hid _:=aQ;have am:Hid _:=aR;have an:Hid _:=aF;have ab:=hxy ak;have au:=HX.out q x p az aI;clear aS aP aQ aR aF ak az aI aN aa HK;rcases au with⟨k1,rfl⟩|⟨k2,v1,v2,rfl,r1,r2⟩|⟨k3,v1,rfl,r1⟩|⟨k4,rfl⟩
  ·have K:=hxy k1
   clear k1;have t1:=xB;go_upto_region 6 with fail;clear t1 g0;obtain⟨u1,O,B,s⟩:∃x,wr.alloc (.cells #[Vi (p:Int),Vi (L p).op,Vi (L p).d,Vi (L p).a,Vi (L p).b,Vi (L p).imm,Vi (L p).h] 155)=x/\Bw wr x/\Cl x wr.heap.size [Vi (p:Int),Vi (L p).op,Vi (L p).d,Vi (L p).a,Vi (L p).b,Vi (L p).imm,Vi (L p).h]:=⟨_,rfl,Ai,Cl.new⟩
   rw[O];have P2:=hxy (P1.below B);have S2:Hid (Stp z (fun _=>False) w v0 u1 v):=S1.trans (Stp.of_below (E:=fun _=>False) v B) (fun _ _ h=>h);have zx:=s.1;have af:u1.cell? ⟨wr.heap.size,1,none⟩=some (Vi (L p).op):=s.2 1 AX;have ag:u1.cell? ⟨wr.heap.size,2,none⟩=some (Vi (L p).d):=s.2 2 AX;have ar:u1.cell? ⟨wr.heap.size,3,none⟩=some (Vi (L p).a):=s.2 3 AX;have aW:u1.cell? ⟨wr.heap.size,4,none⟩=some (Vi (L p).b):=s.2 4 AX;have aX:u1.cell? ⟨wr.heap.size,5,none⟩=some (Vi (L p).imm):=s.2 5 AX;have aY:u1.cell? ⟨wr.heap.size,6,none⟩=some (Vi (L p).h):=s.2 6 AX;clear O B s P1 S1;go_wp2_with fail;obtain⟨y2,y3⟩:=Ro ad.out (.inl K);have HE:p+1+(L p).thn.toNat+(L p).els.toNat=p+1:=by rw[y2,y3];rfl
   have k:=Rk (at':=(j++c).length) D ab K;rw[HE]at k;have C:=ao.out;rw[k,List.length_cons]at C;refine(Rs z v (j++c) (IX (L p)) u1 P2 AB).mono ?_;rintro e u2⟨rfl,v2,M,N⟩;have P3:Hid (LP u2 z v2 (j++(c++[IX (L p)]))):=(by rw[<-List.append_assoc];exact M:LP u2 z v2 (j++(c++[IX (L p)])))
   have S3:Hid (Stp z (fun _=>False) w v0 u2 v2):=S2.trans N (fun _ _ h=>h);have Y:Hid (c++[IX (L p)]++CF L (j++(c++[IX (L p)])).length (p+1) r=J):=(by
    rw[<-HD.out,k,show(j++(c++[IX (L p)])).length=(j++c).length+1 by simp;omega];simp:c++[IX (L p)]++CF L (j++(c++[IX (L p)])).length (p+1) r=J)
   have Z:Hid ((D8 L i r).drop (q+1)=D8 L (p+1) r):=(by have h:=an.out;rw[HE]at h;exact h:(D8 L i r).drop (q+1)=D8 L (p+1) r)
   have X:Hid ((DU L 0 0 321 (p+1) r o).1=0):=(by have h:=am.out;rw[HE]at h;exact h:(DU L 0 0 321 (p+1) r o).1=0)
   clear M N af ag ar aW aX aY y2 y3 HE k C P2 S2;go_wp2;go_roundw
   case rel=>exact⟨q+1,p+1,v2,c++[IX (L p)],AB,AB,AB,by go_num,P3,S3,Y,Z,X⟩
   case measure=>simp[intOf];omega
  ·have K:=hxy k2
   clear k2;obtain⟨A,ka,ca,ax⟩:=Ew.shp m r1;subst ax;obtain⟨ae,kb,cb,a1⟩:=Ew.shp m r2;subst a1;obtain⟨a,ha⟩:∃x:Nat,(L p).thn.toNat=x:=⟨_,rfl⟩
   obtain⟨b,hb⟩:∃x:Nat,(L p).els.toNat=x:=⟨_,rfl⟩
   have ak:p+1+a+b<=r:=by have:=ab.out;omega
   have u:Hid ((L p).thn.toNat=a/\(L p).els.toNat=b):=⟨ha,hb⟩
   have H1:Hid (SX R z L (p+1) (p+1+a) (.slice A ka ca)):=IH.out (p+1) (p+1+a) (o+1) _ AB AB AB (by have h:=aB.out;rw[ha]at h;exact h) (by rw[<-ha];exact r1);have H2:Hid (SX R z L (p+1+a) (p+1+a+b) (.slice ae kb cb)):=IH.out (p+1+a) (p+1+a+b) (o+1) _ AB AB AB (by have h:=aT.out;rw[ha,hb]at h;exact h) (by rw[<-ha,<-hb];exact r2);clear r1 r2 ha hb;have t1:=vg;have t2:=wU;go_upto_region 9 with fail;clear t1 t2 g0;obtain⟨u1,O,B,s⟩:∃x,wr.alloc (.cells #[Vi (p:Int),Vi (L p).cond,.slice A ka ca,.slice ae kb cb] 157)=x/\Bw wr x/\Cl x wr.heap.size [Vi (p:Int),Vi (L p).cond,.slice A ka ca,.slice ae kb cb]:=⟨_,rfl,Ai,Cl.new⟩
   rw[O];have P2:=hxy (P1.below B);have S2:Hid (Stp z (fun _=>False) w v0 u1 v):=S1.trans (Stp.of_below (E:=fun _=>False) v B) (fun _ _ h=>h);have B2:Hid (Below z R u1):=S2.low al P0 (fun _ _ h=>h);have zx:=s.1;have ap:u1.cell? ⟨wr.heap.size,0,none⟩=some (Vi (p:Int)):=s.2 0 AX;have af:u1.cell? ⟨wr.heap.size,1,none⟩=some (Vi (L p).cond):=s.2 1 AX;have ag:u1.cell? ⟨wr.heap.size,2,none⟩=some (.slice A ka ca):=s.2 2 AX;have ar:u1.cell? ⟨wr.heap.size,3,none⟩=some (.slice ae kb cb):=s.2 3 AX;clear O B s P1 S1;go_wp2_with fail;obtain⟨n,ai⟩:=Au (CF L ((j++c).length+1) (p+1) (p+1+a));obtain⟨I,aO⟩:=Au (CF L ((j++c).length+2+n.length) (p+1+a) (p+1+a+b));have k:=OG (at':=(j++c).length) D ab K (x:=n) (y:=I) (by rw[u.1];exact ai) (by rw[u.1,u.2];exact aO);rw[u.1,u.2]at k;have C:=ao.out;rw[k]at C;simp only[List.length_append,List.length_cons]at C;refine(QM R z L p a b (p:Int) (L p).cond A ka ca ae kb cb H1 H2 u1 v (j++c) n I B2 P2 ai aO (by simp only[List.length_append];omega)).mono ?_;rintro e u2⟨rfl,F,M,N⟩;have P3:Hid (LP u2 z F (j++(c++(BP (CZ (L p).cond) (((j++c).length+2+n.length:Nat):Int)::(n++BP 29 (((j++c).length+2+n.length+I.length:Nat):Int)::I))))):=(by rw[<-List.append_assoc];exact M:LP u2 z F (j++(c++(BP (CZ (L p).cond) (((j++c).length+2+n.length:Nat):Int)::(n++BP 29 (((j++c).length+2+n.length+I.length:Nat):Int)::I)))))
   have S3:Hid (Stp z (fun _=>False) w v0 u2 F):=S2.trans N (fun _ _ h=>h);have Y:Hid (c++(BP (CZ (L p).cond) (((j++c).length+2+n.length:Nat):Int)::(n++BP 29 (((j++c).length+2+n.length+I.length:Nat):Int)::I))++CF L (j++(c++(BP (CZ (L p).cond) (((j++c).length+2+n.length:Nat):Int)::(n++BP 29 (((j++c).length+2+n.length+I.length:Nat):Int)::I)))).length (p+1+a+b) r=J):=(by
    rw[<-HD.out,k,show(j++(c++(BP (CZ (L p).cond) (((j++c).length+2+n.length:Nat):Int)::(n++BP 29 (((j++c).length+2+n.length+I.length:Nat):Int)::I)))).length=(j++c).length+2+n.length+I.length by simp;omega];simp:c++(BP (CZ (L p).cond) (((j++c).length+2+n.length:Nat):Int)::(n++BP 29 (((j++c).length+2+n.length+I.length:Nat):Int)::I))++CF L (j++(c++(BP (CZ (L p).cond) (((j++c).length+2+n.length:Nat):Int)::(n++BP 29 (((j++c).length+2+n.length+I.length:Nat):Int)::I)))).length (p+1+a+b) r=J)
   have Z:Hid ((D8 L i r).drop (q+1)=D8 L (p+1+a+b) r):=(by have h:=an.out;rw[u.1,u.2]at h;exact h:(D8 L i r).drop (q+1)=D8 L (p+1+a+b) r)
   have X:Hid ((DU L 0 0 321 (p+1+a+b) r o).1=0):=(by have h:=am.out;rw[u.1,u.2]at h;exact h:(DU L 0 0 321 (p+1+a+b) r o).1=0)
   clear M N ap af ag ar k C P2 S2;go_wp2;go_roundw
   case rel=>exact⟨q+1,p+1+a+b,F,c++(BP (CZ (L p).cond) (((j++c).length+2+n.length:Nat):Int)::(n++BP 29 (((j++c).length+2+n.length+I.length:Nat):Int)::I)),AB,AB,AB,by go_num,P3,S3,Y,Z,X⟩
   case measure=>simp[intOf];omega
  ·have K:=hxy k3
   clear k3;obtain⟨A,ka,ca,ax⟩:=Ew.shp m r1;subst ax;obtain⟨a,ha⟩:∃x:Nat,(L p).thn.toNat=x:=⟨_,rfl⟩
   obtain⟨b,hb⟩:∃x:Nat,(L p).els.toNat=x:=⟨_,rfl⟩
   have ak:p+1+a+b<=r:=by have:=ab.out;omega
   have u:Hid ((L p).thn.toNat=a/\(L p).els.toNat=b):=⟨ha,hb⟩
   have H1:Hid (SX R z L (p+1) (p+1+a) (.slice A ka ca)):=IH.out (p+1) (p+1+a) (o+1) _ AB AB AB (by have h:=aB.out;rw[ha]at h;exact h) (by rw[<-ha];exact r1);have a7:b=0:=by have:=(PD ad).2 K.out;omega
   clear r1 ha hb;have t1:=vw;have t2:=vv;have t3:=wK;go_upto_region 12 with fail;clear t1 t2 t3 g0;obtain⟨u1,O,B,s⟩:∃x,wr.alloc (.cells #[Vi (p:Int),Vi (L p).cond,.slice A ka ca] 160)=x/\Bw wr x/\Cl x wr.heap.size [Vi (p:Int),Vi (L p).cond,.slice A ka ca]:=⟨_,rfl,Ai,Cl.new⟩
   rw[O];have P2:=hxy (P1.below B);have S2:Hid (Stp z (fun _=>False) w v0 u1 v):=S1.trans (Stp.of_below (E:=fun _=>False) v B) (fun _ _ h=>h);have B2:Hid (Below z R u1):=S2.low al P0 (fun _ _ h=>h);have zx:=s.1;have ap:u1.cell? ⟨wr.heap.size,0,none⟩=some (Vi (p:Int)):=s.2 0 AX;have af:u1.cell? ⟨wr.heap.size,1,none⟩=some (Vi (L p).cond):=s.2 1 AX;have ag:u1.cell? ⟨wr.heap.size,2,none⟩=some (.slice A ka ca):=s.2 2 AX;clear O B s P1 S1;go_wp2_with fail;obtain⟨n,ai⟩:=Au (CF L ((j++c).length+1) (p+1) (p+1+a));have k:=PX (at':=(j++c).length) D ab K (x:=n) (by rw[u.1];exact ai);rw[u.1,u.2]at k;have C:=ao.out;rw[k]at C;simp only[List.length_append,List.length_cons]at C;refine(Um R z L p a (p:Int) (L p).cond A ka ca H1 u1 v (j++c) n B2 P2 ai (by simp only[List.length_append];omega)).mono ?_;rintro e u2⟨rfl,F,M,N⟩;have P3:Hid (LP u2 z F (j++(c++(BP (CZ (L p).cond) (((j++c).length+2+n.length:Nat):Int)::(n++[BP 29 ((j++c).length:Int)]))))):=(by rw[<-List.append_assoc];exact M:LP u2 z F (j++(c++(BP (CZ (L p).cond) (((j++c).length+2+n.length:Nat):Int)::(n++[BP 29 ((j++c).length:Int)])))))
   have S3:Hid (Stp z (fun _=>False) w v0 u2 F):=S2.trans N (fun _ _ h=>h);have Y:Hid (c++(BP (CZ (L p).cond) (((j++c).length+2+n.length:Nat):Int)::(n++[BP 29 ((j++c).length:Int)]))++CF L (j++(c++(BP (CZ (L p).cond) (((j++c).length+2+n.length:Nat):Int)::(n++[BP 29 ((j++c).length:Int)])))).length (p+1+a+b) r=J):=(by
    rw[<-HD.out,k,show(j++(c++(BP (CZ (L p).cond) (((j++c).length+2+n.length:Nat):Int)::(n++[BP 29 ((j++c).length:Int)])))).length=(j++c).length+2+n.length by simp;omega];simp:c++(BP (CZ (L p).cond) (((j++c).length+2+n.length:Nat):Int)::(n++[BP 29 ((j++c).length:Int)]))++CF L (j++(c++(BP (CZ (L p).cond) (((j++c).length+2+n.length:Nat):Int)::(n++[BP 29 ((j++c).length:Int)])))).length (p+1+a+b) r=J)
   have Z:Hid ((D8 L i r).drop (q+1)=D8 L (p+1+a+b) r):=(by have h:=an.out;rw[u.1,u.2]at h;exact h:(D8 L i r).drop (q+1)=D8 L (p+1+a+b) r)
   have X:Hid ((DU L 0 0 321 (p+1+a+b) r o).1=0):=(by have h:=am.out;rw[u.1,u.2]at h;exact h:(DU L 0 0 321 (p+1+a+b) r o).1=0)
   clear M N ap af ag k C P2 S2;go_wp2;go_roundw
   case rel=>exact⟨q+1,p+1+a+b,F,c++(BP (CZ (L p).cond) (((j++c).length+2+n.length:Nat):Int)::(n++[BP 29 ((j++c).length:Int)])),AB,AB,AB,by go_num,P3,S3,Y,Z,X⟩
   case measure=>simp[intOf];omega
  ·obtain⟨x0,x1⟩:=Rw ad k4
   omega
theorem ZE(r:World)(s:Nat)(L:Nat->SV)(S:Nat->Prop)(n:r.heap.size<=s):∀(m i c:Nat)(a:Int)(q:Value),Ew L m r S q i c->i<=c->c<=2000->(DU L 0 0 321 i c a).1=0->SX r s L i c q:=by
 intro m;induction m with
 |zero=>
  intro i c a q u j l e;obtain⟨y,rfl⟩:=u;obtain rfl:i=c:=AB;exact Ww r s L 0 i i a (.slice none 0 0) S n ⟨[],⟨World.ownsRow_nil _ _ _ _,fun b h=>by cases h⟩,by rw[GZ AB];rfl,fun k x p h=>by simp at h⟩ j l e (fun A o d v y z B=>by omega)
 |succ m E=>
  intro i c a q u j l e;exact Ww r s L m i c a q S n u j l e (fun A o d v y z B C D=>E A o d v D z AB C)
def wh(L:Nat->SV)(n:Nat)(w:World)(e:Ending)(w':World):Prop:=∃(ao:Option Addr)(k c:Nat),e=.returned (.tuple #[.slice ao k c,.bool (decide (Hq L n))])/\Below w.heap.size w w'/\(Hq L n->Ew L (n+1) w' (fun q=>w.heap.size<=q) (.slice ao k c) 0 n)
theorem NK(b n j:Nat)(L:Nat->SV)(w:World)(ln:n<=1048576)(Z:Ak w b (n*11) (JW L)):
 Ks 24 #[Vs b n j] w fun e w'=>∃(X:Option Addr)(k c:Nat),e=.returned (.tuple #[.slice X k c,.bool (decide (Hq L n))])/\Below w.heap.size w w'/\(Hq L n->Ew L (n+1) w' (fun q=>w.heap.size<=q) (.slice X k c) 0 n):=by
 obtain⟨l,m⟩:=Au (decide (Hq L n));rw[m];have B:=hxy m;have HA:=hxy Z;have lb:=Z.lt;go_enter Tryz.func24,Tryz.ntmps24;by_cases E:n<=2000
 rotate_left
 ·have e1:decide ((2000:Int)<(n:Int))=true:=by simp;omega
  obtain rfl:false=l:=by rw[<-B.out];exact(decide_eq_false (fun h=>E h.1)).symm
  have I:=hxy E;go_wp2;refine mY (.tuple #[.slice none 0 0,.bool false]) (by simp[results,Tryz.results24,go_sem]) ⟨none,0,0,rfl,Below.refl _ _,fun h=>absurd h.1 I⟩
 have e1:decide ((2000:Int)<(n:Int))=false:=by simp;omega
 have I:=hxy E;go_wp2_with fail;obtain⟨u2,N,p,y⟩:∃x,w.alloc (.cells #[Vs b n j,Vi 0,Vi 0,Vi 320,Vi 0,Vi 0] 122)=x/\Bw w x/\KC x w.heap.size b n j 0 0 320 0 0:=⟨_,rfl,Ai,Cl.new,fun i=>by simp[go_sem]⟩
 rw[N];have J:=Td L w.heap.size b n j 0 0 320 AB ln n 0 n 0 AB (Nat.zero_le _) BQ AB AB u2 (HA.below p lb) y;rw[show(n:Int)-((0:Nat):Int)=(n:Int)by omega,show(320:Int)+1=321 from rfl]at J;obtain⟨c,u⟩:=Au (DU L 0 0 321 0 n 0);rw[u]at J;have A:=hxy u;refine J.mono ?_;rintro e u3⟨d,F,D,rfl,a,M,K⟩;have z2:=y.C.1;have z3:=a.size;have O:Hid (Bw w u3):=p.trans ⟨a.os,a.tape,a.output,a.size,fun k hk=>a.block k AB AB⟩;have U:=hxy M;have S:Hid (c.1=0->Ew L (n+1) u3 (fun q=>w.heap.size<=q) (.slice d F D) 0 n):=fun h=>(K h).kept (fun q hq=>by omega) (fun _ _ _=>rfl)
 have q4:u3.cell? ⟨w.heap.size,4,none⟩=some (Vi c.1):=U.C.2 4 AX;have ql:=U.C.1;by_cases z:c.1=0
 rotate_left
 ·have ez:(c.1 !=0)=true:=by simp[z]
  obtain rfl:false=l:=by rw[<-B.out];exact(decide_eq_false (fun h=>z (by have:=h.2.1;rw[A.out]at this;exact this))).symm
  have o:Hid (¬Hq L n):=fun h=>z (by have:=h.2.1;rw[A.out]at this;exact this)
  go_wp2;refine mY (.tuple #[.slice none 0 0,.bool false]) (by simp[results,Tryz.results24,go_sem]) ⟨none,0,0,rfl,O,fun h=>absurd h o⟩
 have ez:(c.1 !=0)=false:=by simp[z]
 have o:=hxy z;go_wp2_with fail;refine(Ov L (fun _=>0) u3 (fun _=>Int.le_refl _) (fun _=>by decide) 0 321 (n+1) 0 n 0 (.slice d F D) _ u3 BJ (S o) (Nat.zero_le _) E (by rw[A.out];exact o)).mono ?_;rintro e u4⟨rfl,r⟩;obtain⟨s,hs⟩:=Au (Cs L (fun _=>0) n);rw[hs,show Cs L (fun _=>0) 0=0 from rfl,Int.sub_zero];have HS:=hxy hs;have Q:Hid (Bw w u4):=O.trans (r.mono AB);have R4:=hxy ((S o).below r);by_cases Y:s<2000
 ·have e3:decide (2000<=s)=false:=by simp;omega
  obtain rfl:true=l:=by rw[<-B.out];exact(decide_eq_true ⟨I,by rw[A.out];exact o,by rw[HS.out];exact Y⟩).symm
  go_wp2;refine mY (.tuple #[.slice d F D,.bool true]) (by simp[results,Tryz.results24,go_sem]) ⟨d,F,D,rfl,Q,fun _=>R4.out⟩
 ·have e3:decide (2000<=s)=true:=by simp;omega
  have R:Hid (¬Hq L n):=fun h=>Y (by have:=h.2.2;rw[HS.out]at this;exact this)
  obtain rfl:false=l:=by rw[<-B.out];exact(decide_eq_false R).symm
  go_wp2;refine mY (.tuple #[.slice none 0 0,.bool false]) (by simp[results,Tryz.results24,go_sem]) ⟨none,0,0,rfl,Q,fun h=>absurd h R⟩
theorem Sm(R:Value)(n:Nat)(L:Nat->SV)(w:World)(hT:Ks 24 #[R] w (wh L n w)):
 Ks 9 #[R] w fun e p=>∃v,e=.returned v/\p.ownsRow w.heap.size 99 6 v (Bb L n).length (ci (Bb L n))/\Below w.heap.size w p:=by
 obtain⟨d,j⟩:=Au (Bb L n);rw[j];have M:=hxy j;go_enter Tryz.func9,Tryz.ntmps9;go_wp2_with fail;refine hT.mono ?_;rintro e b⟨ao,k,c,rfl,m,B⟩;have J:=hxy m;have R1:=hxy B;have I:=m.size;by_cases q:Hq L n
 rotate_left
 ·rw[decide_eq_false q]
  obtain rfl:[]=d:=by rw[<-M.out,Bb,if_neg q]
  go_wp2;go_ret;exact⟨_,rfl,World.ownsRow_lit b #[] 0 I (by unfold maxLen;omega) rfl,J.alloc I _⟩
 rw[decide_eq_true q];have r:=hxy q;go_wp2_with fail;obtain⟨u,U,y,o⟩:∃x,b.alloc (.cells #[.slice none 0 0] 95)=x/\Bw b x/\Cl x b.heap.size [.slice none 0 0]:=⟨_,rfl,Ai,Cl.new⟩
 have Q:Hid (LP u b.heap.size (.slice none 0 0) []):=⟨o.2 0 AX,o.1,fun i=>by rw[<-U];simp[go_sem],World.ownsRow_nil _ _ _ _⟩
 rw[U];have K:=hxy y;obtain⟨r1,r2,r3⟩:=r.out;have S:((CF L 0 0 n).length:Int)<=2000:=by
  have h:=UW (L:=L) (Z:=fun _=>0) (fun _=>Int.le_refl _) _ 0 0 n BQ (Nat.zero_le _);rw[show Cs L (fun _=>0) 0=0 from rfl]at h;omega
 have z:=ZE b b.heap.size L _ BQ (n+1) 0 n 0 (.slice ao k c) (R1 r) (Nat.zero_le _) r1 r2 u (.slice none 0 0) [] K Q (by show 0+(CF L 0 0 n).length<=4000;omega);rw[List.nil_append]at z;change Calls _ _ _ _ (fun e p=>e=.returned (.tuple #[])/\∃X,LP p b.heap.size X (CF L 0 0 n)/\Stp b.heap.size (fun _=>False) u (.slice none 0 0) p X)at z;refine z.mono ?_;rintro e u2⟨rfl,v2,A,D⟩;have N:=hxy A;have Y:Hid (Bw b u2):=D.low K Q (fun _ _ h=>h);go_wp2_with fail;refine(Rs b.heap.size v2 (CF L 0 0 n) (BP 34 0) u2 N AB).mono ?_;rintro e u3⟨rfl,v3,a,E⟩;have l:CF L 0 0 n++[BP 34 0]=d:=by rw[<-M.out,Bb,if_pos r.out]
 rw[l]at a;obtain⟨s,k3,c3,F⟩:=Fa a.O;subst F;have c0:=a.C;have l3:=a.lt;have O3:Hid (u3.ownsRow w.heap.size 99 6 (.slice s k3 c3) d.length (ci d)):=a.O.mono AB;have B3:Hid (Bw w u3):=J.trans ((E.low Y N (fun _ _ h=>h)).mono I);go_wp2;go_ret;exact⟨_,rfl,O3,B3⟩
theorem Pp(b n a:Nat)(L:Nat->SV)(w:World)(h:n<=1048576)(d:Ak w b (n*11) (JW L)):
 Ks 9 #[Vs b n a] w fun e c=>∃v,e=.returned v/\c.ownsRow w.heap.size 99 6 v (Bb L n).length (ci (Bb L n))/\Below w.heap.size w c:=Sm _ n L w (NK b n a L w h d)
end Go.Proofs.YtcjnmdgomocpgaaGreatDoor
