import Derived.Test.YtcjnmdgomocpgaaGreatDoorOfCkChoice
import Derived.Test.YtcjnmdgomocpgaaGreatDoorOfCkTrM
set_option maxHeartbeats 16000000
set_option maxRecDepth 20000
namespace Go.Proofs.YtcjnmdgomocpgaaGreatDoor
section
open Go.RowKit Go.Deep
variable {a e r:Int}{k p u:Nat}{L:Nat->SV}
section
variable{G:SG}{L:Nat->SV}{w0:World}{bC mb bH cH p:Nat}
theorem rZ{F:FS}{a:CR}(i:Cq (fun B q=>ET G (seg L (p+1) (p+1+(L p).thn.toNat)) ((p:Int)+1) B q) (L p).cond (p:Int) (20-k) F r=a)(h:¬(k:Int)<20):a=.bad 10 (p:Int):=by
 rw[<-i,show 20-k=0 by omega];rfl
theorem uO{F:FS}{b:CR}(i:Cq (fun B q=>ET G (seg L (p+1) (p+1+(L p).thn.toNat)) ((p:Int)+1) B q) (L p).cond (p:Int) (20-k) F r=b)(h:(k:Int)<20)(c:JO G L p F r=.bad e a):b=.bad e a:=by
 rw[<-i,show 20-k=(20-(k+1))+1 by omega,Mh,c]
theorem l7{F B:FS}{a:CR}(i:Cq (fun B q=>ET G (seg L (p+1) (p+1+(L p).thn.toNat)) ((p:Int)+1) B q) (L p).cond (p:Int) (20-k) F r=a)(h:(k:Int)<20)(b:JO G L p F r=.ok B e)(c:JI (jF F B) F):a=.ok F e:=by
 rw[<-i,show 20-k=(20-(k+1))+1 by omega,Mh,b];dsimp only;rw[if_pos (IZ.2 c)]
theorem nZ{F B:FS}{a:CR}(i:Cq (fun B q=>ET G (seg L (p+1) (p+1+(L p).thn.toNat)) ((p:Int)+1) B q) (L p).cond (p:Int) (20-k) F r=a)(h:(k:Int)<20)(b:JO G L p F r=.ok B e)(c:¬JI (jF F B) F):Cq (fun B q=>ET G (seg L (p+1) (p+1+(L p).thn.toNat)) ((p:Int)+1) B q) (L p).cond (p:Int) (20-(k+1)) (jF F B) e=a:=by
 rw[<-i,show 20-k=(20-(k+1))+1 by omega,Mh,b];dsimp only;rw[if_neg fun q=>c (IZ.1 q)]
theorem Lr{R:Array Oper}{k:List Oper}{Z:Oper}{a:Act}{w:World}{Q:Exit->Act->World->Prop}(c:Z.guard=none)(j:Z.op=.build 76 #[])(b:Array Value)(e:b=fA DC)(h:wpList Tryz.prog R Q k (a.put Z.dst (.agg b)) w):wpList Tryz.prog R Q (Z::k) a w:=
 wpList_plain c fun _ d=>Dr (Em j b e) (d _ _ h)
theorem jg(hk:(L p).k=3)(hs:1<=(L p).cond/\(L p).cond<=4)(hp:p<=2000)(Q:Option Addr)(k1 U:Nat)(hy:Kq G L w0 bC mb bH cH (p+1) (p+1+(L p).thn.toNat) (.slice Q k1 U))(d:Int)(u:World)(F:FS)(M:Array Value)(r:Int)(hF:M=fA F)(hC:CS G L w0 bC mb bH cH d u r)(hG:JD G F):
 Ks 94 #[Vq bC,.agg #[Vi (p:Int),Vi (L p).cond,.slice Q k1 U],.agg M] u (NS G L w0 bC mb bH cH d (Iw G L p F r) u):=by
 have HF:=hxy hF;have HG:=hxy hG;have an:Hid (∀(u:World)(F:FS)(M:Array Value)(r:Int),M=fA F->CS G L w0 bC mb bH cH d u r->JD G F->Ks 132 #[Vq bC,.agg #[Vi (p:Int),Vi (L p).cond,.slice Q k1 U],.agg M] u (NS G L w0 bC mb bH cH d (JO G L p F r) u)):=fun u F M r=>Yx hs hp Q k1 U hy d u F M r
 obtain⟨z,ag⟩:∃x,x=fA DC:=⟨_,rfl⟩
 have y:=hxy ag;obtain⟨RR,ab⟩:=Au (Iw G L p F r);rw[ab];have I:Hid (Cq (fun B q=>ET G (seg L (p+1) (p+1+(L p).thn.toNat)) ((p:Int)+1) B q) (L p).cond (p:Int) (20-0) F r=RR):=(by rw[<-ab,Iw,if_neg AB,cmpL,if_pos hk]:Cq (fun B q=>ET G (seg L (p+1) (p+1+(L p).thn.toNat)) ((p:Int)+1) B q) (L p).cond (p:Int) (20-0) F r=RR)
 obtain⟨u1,aj,l1,l⟩:=Qz hF (.cells #[Vi (p:Int),Vi (L p).cond,.slice Q k1 U] 160) hC;clear hk hs hp hy hF hG hC ag ab;go_enter Tryz.func94,Tryz.ntmps94;go_upto_region 1 with fail;rw[BX,aj];have L1:=hxy l1;have C1:=hxy l;clear aj l1 l;go_wp2_with fail;go_loopw [11](fun iv wr=>∃(k:Nat)(H:FS)(rr:Int),iv=Vi k/\k<=20/\JD G H/\Hid (Cq (fun B q=>ET G (seg L (p+1) (p+1+(L p).thn.toNat)) ((p:Int)+1) B q) (L p).cond (p:Int) (20-k) H rr=RR)/\Gr u bC mb (.cells #[Vi (p:Int),Vi (L p).cond,.slice Q k1 U] 160) H wr/\CS G L w0 bC mb bH cH d wr rr)(fun iv _=>20-(intOf iv).toNat)
 case atStart=>exact⟨0,F,r,rfl,AB,HG,I,L1,C1⟩
 case round=>
  clear L1 C1 I HG HF;obtain⟨k,H,rr,rfl,hk,gH,C,l2,c2⟩:=hrel;have GH:=hxy gH;have o:=hxy l2;have C2:=hxy c2;obtain⟨s,af⟩:∃x,x=fA H:=⟨_,rfl⟩
  have b:=hxy af;clear gH l2 c2 af;by_cases ad:(k:Int)<20
  rotate_left
  ·have S2:=Ba o.X
   go_upto_region 11 with fail;have j0:∀w',Ft (u.heap.size+1+1) wr w'->w'.cell? ⟨u.heap.size,0,none⟩=some (Vi (p:Int)):=fun w' h=>(AJ ((h.block _ S2 AB).trans o.X) 0).trans rfl
   have ZR:=hxy o.R;refine wp_region_held_drew (S:=fun w'=>Ft (u.heap.size+1+1) wr w') AV (Ft.refl _ _).drew (fun _=>?_);refine Cj 0 (.agg z) rfl (fun w' _=>Em rfl z y) ?_;refine Cn ?_;refine EX [1,2,3,4] ?_;refine AO 5 rfl (fun KK hK=>?_);refine IE AV ?_;refine EG (.tmp 6) (.tmp 33) rfl (u.heap.size+1+1) DC DC rfl z y rfl (BS.below ZR BJ.drew) ?_;intro D c a m;have ac:Ft (u.heap.size+1+1) wr D:=(Ft.refl _ _).drew.trans a;refine hK.out _ _ ac (fun _=>?_);clear hK KK;try simp only[Act.put,List.getElem_toArray,List.getElem_cons_zero,List.getElem_cons_succ]
   refine AU 6 ?_;refine wpAnyH_done AV ?_ _;have E:Hid (BS D (u.heap.size+1+1) DC/\Ft (u.heap.size+1+1) wr D):=⟨c,ac⟩
   clear c a m ac;go_wp2;refine mY (.tuple #[.agg z,.iface 83 (.agg #[Vi 10,Vi (p:Int)])]) (Am rfl _ _ (u.heap.size+1+1) _ _ rfl rfl (E.1.var y)) ?_;rw[show z=fA DC from y.out];exact o.bad E.2 (rZ C AB) (.flaw _ _)
  have x0:wr.cell? ⟨u.heap.size,0,none⟩=some (Vi (p:Int)):=(AJ o.X 0).trans rfl;have x1:wr.cell? ⟨u.heap.size,1,none⟩=some (Vi (L p).cond):=(AJ o.X 1).trans rfl;have x2:wr.cell? ⟨u.heap.size,2,none⟩=some (.slice Q k1 U):=(AJ o.X 2).trans rfl;have xl:=Ba o.X;go_wp2_with(refine BI rfl (.tmp 5) rfl (u.heap.size+1) rfl H s b o.F ?_);refine(an wr H s rr b C2 GH).mono ?_;rintro e u3⟨k3,hx⟩;have L3:=hxy (o.kc k3);clear k3 x0 x1 x2 xl o C2;rcases hx with⟨B,r3,hR,gB,rfl,c3⟩|⟨av,au,v,hR,hE,rfl⟩;rotate_left
  ·obtain⟨t,x,rfl⟩:=hE.shp
   have al:=hxy hE;have A:=hxy hR;clear hE hR;rw[<-y.out];go_wp2_with(refine Aq rfl (.tmp 8) (.tmp 18) rfl u3.heap.size DC DC rfl z y rfl (by rw[BX];exact BS.fresh _) ?_;intro u4 c a m);unfold Hid;have ah:=L3.below (BJ.alloc BQ (.cells (CX (fun _=>zV) 0 0) 76));rw[BX]at a;have L4:=hxy (ah.ft a L3.lt);clear c a m ah L3;go_wp2_with(first|(refine Lr rfl rfl z y ?_)|(refine Aq rfl (.tmp 6) (.tmp 22) rfl (u.heap.size+1+1) DC DC rfl z y rfl L4.R ?_;intro D c a m));unfold Hid;have E:Hid (BS D (u.heap.size+1+1) DC/\Ft (u.heap.size+1+1) u4 D):=⟨c,a⟩
   clear c a m;go_wp2;refine mY (.tuple #[.agg z,.iface t x]) (Am rfl _ _ (u.heap.size+1+1) _ _ rfl rfl (E.1.var y)) ?_;rw[show z=fA DC from y.out];exact L4.bad E.2 (uO C ad A) al
  have HB:=hxy gB;have A:=hxy hR;have C3:=hxy c3;obtain⟨BA,Z⟩:∃x,x=fA B:=⟨_,rfl⟩
  have N:=hxy Z;rw[<-Z];clear gB hR c3 Z;go_wp2_with(refine Aq rfl (.tmp 8) (.tmp 18) rfl u3.heap.size B DC rfl BA N rfl (by rw[BX];exact BS.fresh _) ?_;intro u4 c a m);unfold Hid;have ae:=hxy c;have j:=C3.var L3 rfl a;have C4:=hxy j.1;have L4:=hxy j.2;clear c a m j C3 L3;generalize u3.heap.size=q3 at *;go_wp2_with(first|(refine BI rfl (.tmp 5) rfl (u.heap.size+1) rfl H s b L4.F ?_)|(refine BI rfl (.tmp 8) rfl q3 rfl B BA N ae ?_));obtain⟨_,_,_,z1,l⟩:=Co.1 GH.1;obtain⟨_,_,_,z2,Y⟩:=Co.1 HB.1;refine(KZ H B s BA b N z1.1 z1.2 l.1 l.2 z2.1 z2.2 Y.1 Y.2 _).mono ?_;clear z1 l z2 Y;rintro e u5⟨rfl,K⟩;obtain⟨JA,aa⟩:∃x,x=fA (jF H B):=⟨_,rfl⟩
  have n:=hxy aa;rw[<-aa];have L5:=hxy (L4.below K);have C5:=hxy (C4.below K);clear aa K L4 C4 ae;go_wp2_with(refine Aq rfl (.tmp 10) (.tmp 26) rfl u5.heap.size (jF H B) DC rfl JA n rfl (by rw[BX];exact BS.fresh _) ?_;intro u6 c a m);unfold Hid;have O:=hxy c;have j:=C5.var L5 rfl a;have C6:=hxy j.1;have L6:=hxy j.2;have ar:=hxy L5.lt;clear c a m j C5 L5;generalize u5.heap.size=q5 at *;go_wp2_with(first|(refine BI rfl (.tmp 5) rfl (u.heap.size+1) rfl H s b L6.F ?_)|(refine BI rfl (.tmp 10) rfl q5 rfl (jF H B) JA n O ?_));refine(QT (jF H B) H JA s n b (GH.join HB).1.rg.1 GH.1.rg.1 _).mono ?_;rintro e u7⟨ak,rfl,ai,hs0,K⟩;have ap:=hxy ai;have ao:=hxy hs0;have J:=hxy (L6.below K);have C7:=hxy (C6.below K);have am:=hxy (O.below K);clear ai hs0 K L6 C6 O;cases ak with
  |true=>
   go_wp2_with(first|(refine BI rfl (.tmp 5) rfl (u.heap.size+1) rfl H s b J.F ?_)|(refine Aq rfl (.tmp 6) (.tmp 30) rfl (u.heap.size+1+1) H DC rfl s b rfl J.R ?_;intro D c a m));unfold Hid;have E:Hid (BS D (u.heap.size+1+1) H/\Ft (u.heap.size+1+1) u7 D):=⟨c,a⟩
   clear c a m;go_wp2;refine mY (.tuple #[.agg s,.nilIface]) (Am rfl _ _ (u.heap.size+1+1) _ _ rfl rfl (E.1.var b)) ?_;rw[show s=fA H from b.out];exact J.ok E.2 (l7 C ad A (ap (by first|rfl|trivial))) GH C7
  |false=>
   go_wp2_with(first|(refine BI rfl (.tmp 10) rfl q5 rfl (jF H B) JA n am ?_)|(refine Aq rfl (.tmp 5) (.tmp 31) rfl (u.heap.size+1) (jF H B) H rfl JA n rfl J.F ?_;intro u8 c a m));unfold Hid;have L8:=hxy (J.setF a c);have C8:Hid (CS G L w0 bC mb bH cH d u8 r3):=C7.ft a (by have:=J.n1;omega) (by have:=J.n2;omega) (by have:=J.n1;have:=C7.c1;omega);clear c a m;go_wp2_with fail;go_roundw
   case rel=>exact⟨k+1,jF H B,r3,by go_num,AB,GH.join HB,nZ C ad A (ao (by first|rfl|trivial)),L8,C8⟩
   case measure=>simp[intOf];omega
end
structure Gq(u:World)(bC mb:Nat)(F:FS)(v:World):Prop where
 K:Kc bC mb u v
 F:BS v u.heap.size F
 R:BS v (u.heap.size+1) DC
 n1:bC<u.heap.size
 n2:mb<u.heap.size
section
variable{G:SG}{L:Nat->SV}{w0:World}{bC mb bH cH p:Nat}{d:Int}{u v v':World}{F:FS}{r:Int}
theorem Gq.kc(h:Gq u bC mb F v)(k:Kc bC mb v v'):Gq u bC mb F v':=by
 have:=h.n1;have:=h.n2;exact⟨h.K.trans k,h.F.kc k AB AB,h.R.kc k AB AB,h.n1,h.n2⟩
theorem Gq.below(h:Gq u bC mb F v)(k:Below v.heap.size v v'):Gq u bC mb F v':=h.kc (Kc.of_below k)
theorem Gq.ft{q:Nat}(h:Gq u bC mb F v)(k:Ft q v v')(a:u.heap.size+1<q):Gq u bC mb F v':=
 ⟨h.K.ft k (Or.inl AB),h.F.ft k AB,h.R.ft k AB,h.n1,h.n2⟩
theorem Gq.setF{a:FS}(h:Gq u bC mb F v)(k:Ft u.heap.size v v')(hF:BS v' u.heap.size a):Gq u bC mb a v':=
 ⟨h.K.ft k (Or.inl AB),hF,h.R.ft k AB,h.n1,h.n2⟩
theorem Gq.lt(h:Gq u bC mb F v):u.heap.size+1<v.heap.size:=Ak.lt h.R
theorem Gq.bad{R:CR}{x:Value}{c:World}(h:Gq u bC mb F v)(j:Ft (u.heap.size+1) v c)(b:R=.bad e a)(k:Fg x e a):NS G L w0 bC mb bH cH d R u (.returned (.tuple #[.agg (fA DC),x])) c:=
 ⟨h.K.ft j (Or.inl AB),Or.inr ⟨e,a,x,b,k,rfl⟩⟩
theorem Gq.ok{R:CR}{B:FS}{c:World}(h:Gq u bC mb F v)(b:Ft (u.heap.size+1) v c)(k:R=.ok B e)(j:JD G B)(a:CS G L w0 bC mb bH cH d v e):NS G L w0 bC mb bH cH d R u (.returned (.tuple #[.agg (fA B),.nilIface])) c:=by
 have:=h.n1;have:=h.n2;have:=a.c1;exact⟨h.K.ft b (Or.inl AB),Or.inl ⟨B,e,k,j,rfl,a.ft b AB AB AB⟩⟩
theorem CS.var2{q:Nat}{x:Obj}(h:CS G L w0 bC mb bH cH d v r)(l:Gq u bC mb F v)(a:q=v.heap.size)(f:Ft q (v.alloc x) v'):CS G L w0 bC mb bH cH d v' r/\Gq u bC mb F v':=by
 subst a;have b:Bw v (v.alloc x):=Ai;have:=h.lt;have:=h.M.lt;have:=h.B.size;have:=l.lt;exact⟨(h.below b).ft f AB AB AB,(l.below b).ft f AB⟩
theorem Ya(hk:(L p).k=2)(hs:1<=(L p).cond/\(L p).cond<=4)(ht:0<=(L p).thn)(m n:Option Addr)(s o y q:Nat)(hy:Kq G L w0 bC mb bH cH (p+1) (p+1+(L p).thn.toNat) (.slice m s o))(hn:Kq G L w0 bC mb bH cH (p+1+(L p).thn.toNat) (FV L p) (.slice n y q)):wZ G L w0 bC mb bH cH p (.iface 157 (.agg #[Vi (p:Int),Vi (L p).cond,.slice m s o,.slice n y q])):=by
 intro d u F b r hF Q hG;have HF:=hxy hF;have HG:=hxy hG;obtain⟨Y,D⟩:∃x,x=fA DC:=⟨_,rfl⟩
 have N:=hxy D;have h:Hid (∀(u:World)(F:FS)(b:Array Value)(r:Int),b=fA F->CS G L w0 bC mb bH cH d u r->JD G F->Ks 93 #[Vq bC,.agg #[Vi (p:Int),Vi (L p).cond,.slice m s o,.slice n y q],.agg b] u (NS G L w0 bC mb bH cH d (Iw G L p F r) u)):=fun u F b r=>VX hk hs ht m n s o y q hy hn d u F b r
 obtain⟨u1,I,Z,f1,z1,a⟩:=sD u hF (.cells #[Vi (p:Int),Vi (L p).cond,.slice m s o,.slice n y q] 157);have X:Hid (Gq u bC mb F u1):=⟨Kc.of_below Z,f1,z1,Q.lt,Q.M.lt⟩
 have C1:=hxy (Q.below Z);have xl:=Ba a;have x0:u1.cell? ⟨u.heap.size+1+1,0,none⟩=some (Vi (p:Int)):=(AJ a 0).trans rfl;have x1:u1.cell? ⟨u.heap.size+1+1,1,none⟩=some (Vi (L p).cond):=(AJ a 1).trans rfl;have x2:u1.cell? ⟨u.heap.size+1+1,2,none⟩=some (.slice m s o):=(AJ a 2).trans rfl;have x3:u1.cell? ⟨u.heap.size+1+1,3,none⟩=some (.slice n y q):=(AJ a 3).trans rfl;clear hk hs hy hF hG Q D Z f1 z1 a ht hn;have t1:=vg;have t2:=wU;go_enter Tryz.func55,Tryz.ntmps55;go_upto_region 10 with fail;clear t1 t2;rw[BX,I];clear I;go_wp2_with(refine BI rfl (.tmp 5) rfl u.heap.size rfl F b HF X.F ?_);refine(h u1 F b r HF C1 HG).mono ?_;rintro e u2⟨J,hx⟩;have O:=hxy (X.kc J);clear J x0 x1 x2 x3 xl X C1;rcases hx with⟨B,r3,C,gB,rfl,c3⟩|⟨ab,aa,v,C,hE,rfl⟩
 ·have HB:=hxy gB
  have j:=hxy C;have C3:=hxy c3;obtain⟨S,l⟩:∃x,x=fA B:=⟨_,rfl⟩
  have c:=hxy l;rw[<-l];clear gB C c3 l;go_wp2_with(refine Aq rfl (.tmp 6) (.tmp 44) rfl (u.heap.size+1) B DC rfl S c rfl O.R ?_;intro K A E hz);unfold Hid;have z:Hid (BS K (u.heap.size+1) B/\Ft (u.heap.size+1) u2 K):=⟨A,E⟩
  clear A E hz;go_wp2;refine mY (.tuple #[.agg S,.nilIface]) (Am rfl _ _ (u.heap.size+1) _ _ rfl rfl (z.1.var c)) ?_;rw[show S=fA B from c.out];exact O.ok z.2 j HB C3
 ·obtain⟨t,x,rfl⟩:=hE.shp
  have U:=hxy hE;have j:=hxy C;clear hE C;rw[<-N.out];go_wp2_with(refine Aq rfl (.tmp 6) (.tmp 44) rfl (u.heap.size+1) DC DC rfl Y N rfl O.R ?_;intro K A E hz);unfold Hid;have z:Hid (BS K (u.heap.size+1) DC/\Ft (u.heap.size+1) u2 K):=⟨A,E⟩
  clear A E hz;go_wp2;refine mY (.tuple #[.agg Y,.iface t x]) (Am rfl _ _ (u.heap.size+1) _ _ rfl rfl (z.1.var N)) ?_;rw[show Y=fA DC from N.out];exact O.bad z.2 j U
theorem YU(hk:(L p).k=3)(hs:1<=(L p).cond/\(L p).cond<=4)(hp:p<=2000)(m:Option Addr)(o n:Nat)(hy:Kq G L w0 bC mb bH cH (p+1) (p+1+(L p).thn.toNat) (.slice m o n)):wZ G L w0 bC mb bH cH p (.iface 160 (.agg #[Vi (p:Int),Vi (L p).cond,.slice m o n])):=by
 intro d u F b r hF K hG;have HF:=hxy hF;have HG:=hxy hG;obtain⟨S,z⟩:∃x,x=fA DC:=⟨_,rfl⟩
 have I:=hxy z;have h:Hid (∀(u:World)(F:FS)(b:Array Value)(r:Int),b=fA F->CS G L w0 bC mb bH cH d u r->JD G F->Ks 94 #[Vq bC,.agg #[Vi (p:Int),Vi (L p).cond,.slice m o n],.agg b] u (NS G L w0 bC mb bH cH d (Iw G L p F r) u)):=fun u F b r=>jg hk hs hp m o n hy d u F b r
 obtain⟨u1,C,U,f1,z1,a⟩:=sD u hF (.cells #[Vi (p:Int),Vi (L p).cond,.slice m o n] 160);have Q:Hid (Gq u bC mb F u1):=⟨Kc.of_below U,f1,z1,K.lt,K.M.lt⟩
 have Z:=hxy (K.below U);have xl:=Ba a;have x0:u1.cell? ⟨u.heap.size+1+1,0,none⟩=some (Vi (p:Int)):=(AJ a 0).trans rfl;have x1:u1.cell? ⟨u.heap.size+1+1,1,none⟩=some (Vi (L p).cond):=(AJ a 1).trans rfl;have x2:u1.cell? ⟨u.heap.size+1+1,2,none⟩=some (.slice m o n):=(AJ a 2).trans rfl;clear hk hs hy hF hG K z U f1 z1 a hp;have t1:=vw;have t2:=vv;have t3:=wK;go_enter Tryz.func55,Tryz.ntmps55;go_upto_region 13 with fail;clear t1 t2 t3;rw[BX,C];clear C;go_wp2_with(refine BI rfl (.tmp 5) rfl u.heap.size rfl F b HF Q.F ?_);refine(h u1 F b r HF Z HG).mono ?_;rintro e u2⟨D,hx⟩;have J:=hxy (Q.kc D);clear D x0 x1 x2 xl Q Z;rcases hx with⟨B,r3,y,gB,rfl,c3⟩|⟨ab,aa,v,y,X,rfl⟩
 ·have HB:=hxy gB
  have j:=hxy y;have C3:=hxy c3;obtain⟨N,l⟩:∃x,x=fA B:=⟨_,rfl⟩
  have c:=hxy l;rw[<-l];clear gB y c3 l;go_wp2_with(refine Aq rfl (.tmp 6) (.tmp 53) rfl (u.heap.size+1) B DC rfl N c rfl J.R ?_;intro E s A Y);unfold Hid;have q:Hid (BS E (u.heap.size+1) B/\Ft (u.heap.size+1) u2 E):=⟨s,A⟩
  clear s A Y;go_wp2;refine mY (.tuple #[.agg N,.nilIface]) (Am rfl _ _ (u.heap.size+1) _ _ rfl rfl (q.1.var c)) ?_;rw[show N=fA B from c.out];exact J.ok q.2 j HB C3
 ·obtain⟨t,x,rfl⟩:=X.shp
  have O:=hxy X;have j:=hxy y;clear X y;rw[<-I.out];go_wp2_with(refine Aq rfl (.tmp 6) (.tmp 53) rfl (u.heap.size+1) DC DC rfl S I rfl J.R ?_;intro E s A Y);unfold Hid;have q:Hid (BS E (u.heap.size+1) DC/\Ft (u.heap.size+1) u2 E):=⟨s,A⟩
  clear s A Y;go_wp2;refine mY (.tuple #[.agg S,.iface t x]) (Am rfl _ _ (u.heap.size+1) _ _ rfl rfl (q.1.var I)) ?_;rw[show S=fA DC from I.out];exact J.bad q.2 j O
end
theorem UH{s:SV}(h:BZ s 0=true)(a:s.k=2∨s.k=3):(1<=s.cond/\s.cond<=4)/\0<=s.thn:=by
 unfold BZ at h;rcases a with a|a
 ·rw[if_neg AB,if_pos a]at h
  simp only[decide_eq_true_eq]at h;omega
 ·rw[if_neg AB,if_neg AB,if_pos a]at h
  simp only[decide_eq_true_eq]at h;omega
theorem gT{s:SV}(h:BZ s 0=true)(a:s.k=4):False:=by
 unfold BZ at h;rw[if_neg AB,if_neg AB,if_neg AB,if_pos a]at h;simp only[decide_eq_true_eq]at h;omega
theorem nW{G:SG}{F:FS}{c:CR}(i:ET G (seg L p u) (p:Int) F r=c)(b:p<u)(j:BZ (L p) 0=true)(d:FV L p<=u)(h:Iw G L p F r=.bad e a):c=.bad e a:=by
 rw[<-i,WC G L b j d,h]
theorem rH{G:SG}{F B:FS}{b:CR}(i:ET G (seg L p u) (p:Int) F r=b)(a:p<u)(d:BZ (L p) 0=true)(c:FV L p<=u)(h:Iw G L p F r=.ok B e):ET G (seg L (FV L p) u) (FV L p:Int) B e=b:=by
 rw[<-i,WC G L a d c,h]
theorem gK{G:SG}{F:FS}{b:CR}(i:ET G (seg L p u) (p:Int) F r=b)(a:¬p<u):b=.ok F r:=by
 rw[<-i,J7 a,Fx]
theorem TL(G:SG)(L:Nat->SV)(K:World)(U Y bH cH m i a:Nat)(D:Int)(tv:Value)(S:Nat->Prop)
 (hr:Ew L (m+1) K S tv i a)(aK:i<=a)(a0:a<=2000)(ao:(DU L 0 0 321 i a D).1=0)
 (ih:∀i' J d v,i<i'->i'<=J->J<=a->(DU L 0 0 321 i' J d).1=0->Ew L m K S v i' J->Kq G L K U Y bH cH i' J v):Kq G L K U Y bH cH i a tv:=by
 intro d u F FA r hF hC hG;obtain⟨N,n,ah,hx⟩:=hr;obtain⟨aP,X,ct,aN⟩:=Fa n.1;subst aN;have C:=hxy n;have al:=hxy ah;have HX:Hid _:=hx;have aE:=hxy ao;have IH:Hid _:=ih;have HF:=hxy hF;have HG:=hxy hG;obtain⟨Z0,an⟩:∃x,x=fA DC:=⟨_,rfl⟩
 have HZ:=hxy an;obtain⟨RR,ad⟩:=Au (ET G (seg L i a) (i:Int) F r);rw[ad];have O:=hxy ad;have af:X=N.length:=by
  rcases n.1.2 with⟨e,e2⟩|⟨g,aR,aT,e,_⟩
  ·have:=(Value.slice.inj e).2.1;omega
  ·exact(Value.slice.inj e).2.1
 have aW:X<=2000:=by rw[af,ah];exact Nat.le_trans (OP L _ i a BQ) AB
 have j:=hxy af;obtain⟨u1,aA,l1,c1⟩:∃y,(u.alloc (.cells FA 76)).alloc (.cells (CX (fun _=>zV) 0 0) 76)=y/\Gq u U Y F y/\CS G L K U Y bH cH d y r:=by
  have n0:=BS.new u hF;have b0:=(Below.refl u.heap.size u).alloc BQ (.cells FA 76);generalize hx:u.alloc (.cells FA 76)=x at *;have s0:x.heap.size=u.heap.size+1:=by rw[<-hx];simp
  have n1:=BS.fresh x;have b1:=(Below.refl x.heap.size x).alloc BQ (.cells (CX (fun _=>zV) 0 0) 76);rw[s0]at n1;have bb:=b0.trans (b1.mono AB);exact⟨_,rfl,⟨Kc.of_below bb,n0.below b1,n1,hC.lt,hC.M.lt⟩,hC.below bb⟩
 clear n ah hx ao ih hF hC hG af an ad;go_enter Tryz.func25,Tryz.ntmps25;go_upto_region 1 with fail;rw[BX,aA];have L1:=hxy l1;have C1:=hxy c1;clear aA l1 c1;go_wp2_with fail;go_loopw [14](fun iv wr=>∃(q p:Nat)(H:FS)(rk:Int),q<=X/\i<=p/\p<=a/\iv=Vi (q:Int)/\JD G H/\Hid (ET G (seg L p a) (p:Int) H rk=RR)/\Gq u U Y H wr/\CS G L K U Y bH cH d wr rk/\(D8 L i a).drop q=D8 L p a/\(DU L 0 0 321 p a D).1=0)(fun iv _=>X-(intOf iv).toNat)
 case atStart=>exact⟨0,i,F,r,Nat.zero_le _,BQ,aK,rfl,HG,O,L1,C1,AX,aE⟩
 case round=>
  clear L1 C1 O HG HF;obtain⟨q,p,H,rk,hq,aV,aY,rfl,gH,ab,l2,c2,ar,hc⟩:=hrel;have GH:=hxy gH;have L2:=hxy l2;have C2:=hxy c2;have A:=hxy ar;have HK:=hxy hc;obtain⟨HA,am⟩:∃x,x=fA H:=⟨_,rfl⟩
  have o:=hxy am;clear gH l2 c2 ar hc am;by_cases b:p<a
  rotate_left
  ·have aZ:q=X:=by
    have h:=congrArg List.length A;rw[List.length_drop,<-al.out,<-j.out,GZ b]at h;simp at h;omega
   have ax:¬(q:Int)<(X:Int):=AB;go_wp2_with(first|(refine BI rfl (.tmp 5) rfl u.heap.size rfl H HA o L2.F ?_)|(refine Aq rfl (.tmp 6) (.tmp 31) rfl (u.heap.size+1) H DC rfl HA o rfl L2.R ?_;intro wE s c I));unfold Hid;have HE:Hid (BS wE (u.heap.size+1) H/\Ft (u.heap.size+1) wr wE):=⟨s,c⟩
   clear s c I;go_wp2;refine mY (.tuple #[.agg HA,.nilIface]) (Am rfl _ _ (u.heap.size+1) _ _ rfl rfl (HE.1.var o)) ?_;rw[show HA=fA H from o.out];exact L2.ok HE.2 (gK ab b) GH C2
  have aw:q<X:=by
   have h:=congrArg List.length A;rw[List.length_drop,<-al.out,<-j.out,Dm b]at h;simp at h;omega
  have ax:(q:Int)<(X:Int):=AB;obtain⟨gt,aS,az⟩:=Ii C.1 (by rw[<-j.out];omega);obtain⟨rfl,I,rfl⟩:=Value.slice.inj az;clear I;have aI:Hid (K.ownsRow 0 126 1 (Vs gt N.length ct) N.length N):=(by have:=C.1;rwa [j.out]at this:K.ownsRow 0 126 1 (Vs gt N.length ct) N.length N)
  obtain⟨x,ai⟩:∃x,N[q]?=some x:=⟨N[q]'(by rw[<-j.out];exact aw),by simp[<-j.out,aw]⟩
  have av:(D8 L i a)[q]?=some p:=by
   have h:=congrArg (fun l=>l[0]?) A;simp only[Dm b,List.getElem?_drop,Nat.add_zero,List.getElem?_cons_zero]at h;exact h
  have ap:(D8 L i a).drop (q+1)=D8 L (FV L p) a:=by
   have h:=congrArg (List.drop 1) A;rw[List.drop_drop,Dm b]at h;simpa[Nat.add_comm,FV]using h
  have aO:gt<K.heap.size:=(C.1.lt gt rfl).2;have g0:wr.cell? (Va gt q)=some x:=by
   rw[C2.B.cell (p:=Va gt q) aO,aI.cellAt q (by rw[<-j.out];omega)];exact ai
  obtain⟨z,aM,aj,aB,aC⟩:=FX HK b;have ak:=hxy z;have aD:Hid _:=aC;have aF:Hid _:=ap;have k:FV L p<=a:=aM;have E:=HX.out q x p ai av;have ay:wZ G L K U Y bH cH p x:=by
   rcases E with⟨k1,rfl⟩|⟨k2,v1,v2,rfl,r1,r2⟩|⟨k3,v1,rfl,r1⟩|⟨k4,rfl⟩
   ·exact YJ k1 z
   ·obtain⟨a1,n1,c1,rfl⟩:=r1.shp
    obtain⟨a2,n2,c2,rfl⟩:=r2.shp;have hc:=UH z (.inl k2);exact Ya k2 hc.1 hc.2 _ _ _ _ _ _ (IH _ _ _ _ AB AB AB aj r1) (IH _ _ _ _ AB (by have:FV L p=p+1+(L p).thn.toNat+(L p).els.toNat:=rfl;omega) k aB r2)
   ·obtain⟨a1,n1,c1,rfl⟩:=r1.shp
    exact YU k3 (UH z (.inr k3)).1 AB _ _ _ (IH _ _ _ _ AB AB AB aj r1)
   ·exact(gT z k4).elim
  have aJ:=hxy ay;clear z aj aB aC ap ai av az A HK E ay;have aX:p<FV L p:=by unfold FV;omega
  go_wp2_with(refine BI rfl (.tmp 5) rfl u.heap.size rfl H HA o L2.F ?_);have ag:=aJ.out;unfold wZ at ag;refine(ag d wr H HA rk o C2 GH).mono ?_;rintro e u3⟨k3,hx⟩;have L3:=hxy (L2.kc k3);clear ag k3 g0 L2 C2;rcases hx with⟨B,r3,hR,gB,rfl,c3⟩|⟨aU,aQ,v,hR,hE,rfl⟩;rotate_left
  ·obtain⟨t,x',rfl⟩:=hE.shp
   have aG:=hxy hE;have aa:=hxy hR;clear hE hR;rw[<-HZ.out];go_wp2_with(refine Aq rfl (.tmp 10) (.tmp 23) rfl u3.heap.size DC DC rfl Z0 HZ rfl (by rw[BX];exact BS.fresh _) ?_;intro u4 s c I);unfold Hid;have au:=L3.below (BJ.alloc BQ (.cells (CX (fun _=>zV) 0 0) 76));rw[BX]at c;have Q:=hxy (au.ft c L3.lt);clear s c I au L3;go_wp2_with(first|(refine Lr rfl rfl Z0 HZ ?_)|(refine Aq rfl (.tmp 6) (.tmp 27) rfl (u.heap.size+1) DC DC rfl Z0 HZ rfl Q.R ?_;intro wE s c I));unfold Hid;have HE:Hid (BS wE (u.heap.size+1) DC/\Ft (u.heap.size+1) u4 wE):=⟨s,c⟩
   clear s c I;go_wp2;refine mY (.tuple #[.agg Z0,.iface t x']) (Am rfl _ _ (u.heap.size+1) _ _ rfl rfl (HE.1.var HZ)) ?_;rw[show Z0=fA DC from HZ.out];exact Q.bad HE.2 (nW ab b ak k aa) aG
  have HB:=hxy gB;have aa:=hxy hR;have C3:=hxy c3;obtain⟨BA,ac⟩:∃x,x=fA B:=⟨_,rfl⟩
  have Z:=hxy ac;rw[<-ac];clear gB hR c3 ac;go_wp2_with(refine Aq rfl (.tmp 10) (.tmp 23) rfl u3.heap.size B DC rfl BA Z rfl (by rw[BX];exact BS.fresh _) ?_;intro u4 s c I);unfold Hid;have aH:=hxy s;have ae:=C3.var2 L3 rfl c;have C4:=hxy ae.1;have Q:=hxy ae.2;clear s c I ae C3 L3;generalize u3.heap.size=q3 at *;go_wp2_with(first|(refine BI rfl (.tmp 10) rfl q3 rfl B BA Z aH ?_)|(refine Aq rfl (.tmp 5) (.tmp 29) rfl u.heap.size B H rfl BA Z rfl Q.F ?_;intro u8 s c I));unfold Hid;have L8:=hxy (Q.setF c s);have C8:Hid (CS G L K U Y bH cH d u8 r3):=C4.ft c (by have:=Q.n1;omega) (by have:=Q.n2;omega) (by have:=Q.n1;have:=C4.c1;omega);clear s c I;go_wp2_with fail;go_roundw
  case rel=>exact⟨q+1,FV L p,B,r3,AB,AB,k,by go_num,HB,rH ab b ak k aa,L8,C8,aF,aD⟩
  case measure=>simp[intOf];omega
theorem Yr(G:SG)(L:Nat->SV)(q:World)(r z s u:Nat)(S:Nat->Prop):∀(m i c:Nat)(a:Int)(o:Value),Ew L m q S o i c->i<=c->c<=2000->(DU L 0 0 321 i c a).1=0->Kq G L q r z s u i c o:=by
 intro m;induction m with
 |zero=>
  intro i c a o y j l e;obtain⟨A,rfl⟩:=y;obtain rfl:i=c:=AB;exact TL G L q r z s u 0 i i a (.slice none 0 0) S ⟨[],⟨World.ownsRow_nil _ _ _ _,fun b h=>by cases h⟩,by rw[GZ AB];rfl,fun k x p h=>by simp at h⟩ j l e (fun C n d v A B D=>by omega)
 |succ m I=>
  intro i c a o y j l e;exact TL G L q r z s u m i c a o S y j l e (fun C n d v A B D E F=>I C n d v F B AB E)
end
section
open Go.RowKit Go.Deep Go.Extern.Stop Go.Stop Go.Extern
theorem uF(v:Value)(w:World):(Instr.typeAssert (.iface 227 v) 78 188 true).run Tryz.prog w=.ok (.tuple #[.nilIface,.bool false]) w:=run_typeAssert_lacksB Tryz.underlying188 AV AV v 78 w
theorem uG(v:Value)(w:World):(Instr.typeAssert (.iface 227 v) 78 191 true).run Tryz.prog w=.ok (.tuple #[.iface 227 v,.bool true]) w:=AV
theorem mX(x:Array Value)(w:World):(Go.method 379 227 (.agg x) "Unwrap").run Tryz.prog w=.ok (207,.agg x) w:=AV
theorem VK(p:Int)(t:TypeId)(x:Value)(w:World):Ks 207 #[.agg #[Vi p,.iface t x]] w fun e a=>e=.returned (.iface t x)/\Below w.heap.size w a:=by
 go_enter Tryz.func207,Tryz.ntmps207;go_wp2;go_ret;exact⟨rfl,Ai⟩
theorem U7(t:TypeId)(p v:Value):SizeOf.sizeOf v<SizeOf.sizeOf (Value.iface t (.agg #[p,v])):=by
 have:SizeOf.sizeOf v<SizeOf.sizeOf (#[p,v]:Array Value):=Array.sizeOf_lt_of_mem AX;simp only[Value.iface.sizeOf_spec,Value.agg.sizeOf_spec];omega
theorem sQ(j h:Int)(v:Value)(d:Fg v j h)(b q:Nat)(x y:Value)(w:World)(U:w.cell? (Va q 0)=some (Vq b))(a:w.heap[b]?=some (.cells #[x,y] 83))(o:q<w.heap.size):
 Ks 59 #[v,.iface 85 (Vq b),.agg #[.pointer (some ⟨1,85,none⟩),Vq q,.int .u64 150],.iface 183 (.agg #[.pointer (some ⟨1,83,none⟩)])] w fun e Y=>e=.returned (.bool true)/\Ft b w Y/\Y.heap[b]?=some (.cells #[Vi j,Vi h] 83):=by
 have aa:=@run_callFunc_extern Tryz.prog 56 _ (fun m=>ReflectliteValue.unpack (m.getD 0 (.tuple #[]))) Tryz.func56 AV AV AV AV;have S:=@run_callFunc_extern Tryz.prog 195 _ (ReflectliteType.relation "AssignableTo" ReflectliteType.assignableTo) Tryz.func195 AV AV AV AV;have ab:=@run_callFunc_extern Tryz.prog 95 _ ReflectliteType.typeOf Tryz.func95 AV AV AV AV;have ac:=@run_callFunc_extern Tryz.prog 96 _ (ReflectliteValue.method (ReflectliteValue.valueError "reflectlite.Value.Elem" 0) ReflectliteValue.elem) Tryz.func96 AV AV AV AV;have ad:=@run_callFunc_extern Tryz.prog 97 _ ReflectliteValue.set Tryz.func97 AV AV AV AV;have tF:=lT;have tW:=qG;have mA:=lQ;have aF:=qV;have aW:=oF;have vF:=qN;have HV:=hxy d;have Q:=hxy U;have O:=hxy a;have n:b<w.heap.size:=(I8.1 a).1;clear d U a;go_enter Tryz.func59,Tryz.ntmps59;go_wp2_with fail;obtain⟨u,F,r,L,M,N⟩:∃z,w.alloc (.cells #[.pointer (some ⟨1,85,none⟩),Vq q,.int .u64 150] 131)=z/\Bw w z/\z.cell? ⟨w.heap.size,0,none⟩=some (.pointer (some ⟨1,85,none⟩))/\z.cell? ⟨w.heap.size,1,none⟩=some (Vq q)/\z.cell? ⟨w.heap.size,2,none⟩=some (.int .u64 150):=⟨_,rfl,Ai,(AJ (Az w _) 0).trans rfl,(AJ (Az w _) 1).trans rfl,(AJ (Az w _) 2).trans rfl⟩
 rw[F];have k:w.heap.size<u.heap.size:=by rw[<-F];simp
 have BU:=hxy r;have X:Hid (u.cell? ⟨w.heap.size,0,none⟩=some (.pointer (some ⟨1,85,none⟩))/\u.cell? ⟨w.heap.size,1,none⟩=some (Vq q)/\u.cell? ⟨w.heap.size,2,none⟩=some (.int .u64 150)):=⟨L,M,N⟩
 have A:=hxy ((r.block b n).trans O);have B:Hid (u.cell? (Va q 0)=some (Vq b)):=(r.cell (p:=Va q 0) o).trans Q;clear F r L M N O Q;go_loopw [0](fun J wx=>∃K,J=K/\Fg K j h/\Bw u wx)(fun J _=>SizeOf.sizeOf J)
 case atStart=>exact⟨v,rfl,HV,Below.refl _ _⟩
 case round=>
  obtain⟨K,rfl,d,a⟩:=hrel;have s:=hxy a;have I:=d.inv;clear d;rcases I with rfl|⟨p,v',rfl,d⟩
  ·
   have L:=(a.cell (p:=⟨w.heap.size,0,none⟩) k).trans X.1;have M:=(a.cell (p:=⟨w.heap.size,1,none⟩) k).trans X.2.1;have N:=(a.cell (p:=⟨w.heap.size,2,none⟩) k).trans X.2.2;have ae:w.heap.size<wr.heap.size:=Ey k a.size;have el:=iC ⟨q,0,none⟩ ⟨b,0,none⟩ wr ((a.cell (p:=Va q 0) (Nat.lt_trans o k)).trans B);have c:=(a.block b (Nat.lt_trans n k)).trans A;have st:=sO b wr.heap.size j h x y (wr.alloc (.cells #[Vi j,Vi h] 83)) (Az _ _) ((Below.heap_alloc _ _ _ (by have:=(I8.1 c).1;omega)).trans c);have l:=hxy c;clear a c;go_wp2;go_ret;obtain⟨t,ht,R⟩:∃z,wr.alloc (.cells #[Vi j,Vi h] 83)=z/\Bw wr z:=⟨_,rfl,Ai⟩
   rw[ht];have D:t.heap[b]?=some (.cells #[x,y] 83):=(R.block b (I8.1 l).1).trans l;refine⟨rfl,((Ft.of_below ((BU.trans (s.mono AB)).trans (R.mono AB))).set _ _).set _ _,BG (BG D 0 _) 1 _⟩
  ·
   have C:=hxy d;have t1:=uF;have t2:=uG;have mU:=mX;have E:=U7 227 (Vi p) v';obtain⟨tt,xx,rfl⟩:=d.shp;clear a d;go_wp2_with fail;refine(VK p tt xx _).mono ?_;rintro e u2⟨rfl,a⟩;have Z:=hxy (s.trans (a.mono s.size));clear a t1 t2 mU;go_wp2_with fail;go_roundw
   case rel=>exact⟨_,rfl,C,Z⟩
   case measure=>exact E
theorem Sn(j d:Int)(v:Value)(o:Fg v j d)(b:Nat)(x y:Value)(w:World)(m:w.heap[b]?=some (.cells #[x,y] 83))(E:w.cell? (Va 0 0)=some (.iface 183 (.agg #[.pointer (some ⟨1,78,none⟩)])))(S:0<w.heap.size):
 Ks 27 #[v,.iface 85 (Vq b)] w fun e J=>e=.returned (.bool true)/\Ft b w J/\J.heap[b]?=some (.cells #[Vi j,Vi d] 83):=by
 have X:=@run_callFunc_extern Tryz.prog 56 _ (fun a=>ReflectliteValue.unpack (a.getD 0 (.tuple #[]))) Tryz.func56 AV AV AV AV;have Y:=@run_callFunc_extern Tryz.prog 57 _ (ReflectliteValue.methodAny (ReflectliteValue.valueError "reflectlite.Value.Type" 0) (fun t _ _ _=>ReflectliteType.toType t)) Tryz.func57 AV AV AV AV;have Z:=@run_callFunc_extern Tryz.prog 58 _ (ReflectliteValue.method (ReflectliteValue.valueError "reflectlite.Value.IsNil" 0) ReflectliteValue.isNil) Tryz.func58 AV AV AV AV;have A:=@run_callFunc_extern Tryz.prog 184 _ (ReflectliteType.abiMethod fun t=>do pure (.int .u8 (<-Rtype.kind t))) Tryz.func184 AV AV AV AV;have B:=@run_callFunc_extern Tryz.prog 197 _ (ReflectliteType.method ReflectliteType.elem) Tryz.func197 AV AV AV AV;have C:=@run_callFunc_extern Tryz.prog 198 _ (ReflectliteType.relation "Implements" ReflectliteType.implements_) Tryz.func198 AV AV AV AV;have vT:=kr;have tT:=fq;have mK:=Zf;have mE:=gU;have mI:=jP;have kT:=je;have kF:=Z8;have eT:=jK;have iF:=mQ;have N:=hxy o;have L:=hxy m;have M:=hxy E;have n:b<w.heap.size:=(I8.1 m).1;obtain⟨tt,xx,rfl⟩:=o.shp;clear o m E;go_enter Tryz.func27,Tryz.ntmps27;go_upto_region 6 with fail;obtain⟨u,F,h,x0,x1,x2,q,ul⟩:∃z,(w.alloc (.cells #[Vq b] 85)).alloc (.cells #[.pointer (some ⟨1,85,none⟩),Vq w.heap.size,.int .u64 150] 131)=z/\Bw w z/\z.cell? ⟨w.heap.size+1,0,none⟩=some (.pointer (some ⟨1,85,none⟩))/\z.cell? ⟨w.heap.size+1,1,none⟩=some (Vq w.heap.size)/\z.cell? ⟨w.heap.size+1,2,none⟩=some (.int .u64 150)/\z.cell? ⟨w.heap.size,0,none⟩=some (Vq b)/\w.heap.size+1<z.heap.size:=by
  have n0:=Az w (.cells #[Vq b] 85);have Q:=(Below.refl w.heap.size w).alloc BQ (.cells #[Vq b] 85);generalize hx:w.alloc (.cells #[Vq b] 85)=z at *;have I:z.heap.size=w.heap.size+1:=by rw[<-hx];simp
  have k:=Az z (.cells #[.pointer (some ⟨1,85,none⟩),Vq w.heap.size,.int .u64 150] 131);have s:=(Below.refl z.heap.size z).alloc BQ (.cells #[.pointer (some ⟨1,85,none⟩),Vq w.heap.size,.int .u64 150] 131);rw[I]at k;exact⟨_,rfl,Q.trans (s.mono AB),(AJ k 0).trans rfl,(AJ k 1).trans rfl,(AJ k 2).trans rfl,(s.cell (p:=⟨w.heap.size,0,none⟩) (show w.heap.size<z.heap.size by omega)).trans ((AJ n0 0).trans rfl),by simp[I]⟩
 rw[F];have n8:=jE ⟨w.heap.size,0,none⟩ ⟨b,0,none⟩ u q;have R:u.cell? (Va 0 0)=some (.iface 183 (.agg #[.pointer (some ⟨1,78,none⟩)])):=(h.cell (p:=Va 0 0) S).trans M;have U:0<u.heap.size:=AB;have K:=hxy h;have l:=hxy ((h.block b n).trans L);have O:=hxy q;clear F h q;go_wp2_with fail;refine(sQ j d _ N b w.heap.size x y u O l AB).mono ?_;rintro e u2⟨rfl,D,c⟩;have r:Hid (Ft b u u2/\u2.heap[b]?=some (.cells #[Vi j,Vi d] 83)):=⟨D,c⟩
 clear D c n8 R x0 x1 x2;go_wp2;go_ret;exact⟨rfl,(Ft.of_below K).trans r.1,r.2⟩
end
section
open Go.RowKit
def xL(bH nH cH bR nR cR:Nat):Array Value:=#[Vs bH nH cH,Vs bR nR cR]
def SN:Array Value:=#[Vi 0,Vi 0,.slice none 0 0,Vi 0,Vi 0]
structure U9(w:World)(bH nH cH bR nR cR:Nat)(v:World):Prop where
 B:Below w.heap.size w v
 X:v.heap[w.heap.size]?=some (.cells (xL bH nH cH bR nR cR) 26)
 R:v.heap[w.heap.size+1]?=some (.cells SN 33)
section
variable{w v v':World}{bH nH cH bR nR cR:Nat}
theorem U9.below(h:U9 w bH nH cH bR nR cR v)(k:Below v.heap.size v v'):U9 w bH nH cH bR nR cR v':=
 ⟨h.B.trans (k.mono h.B.size),(k.block _ (Ba h.X)).trans h.X,(k.block _ (Ba h.R)).trans h.R⟩
theorem U9.kc{c b:Nat}(h:U9 w bH nH cH bR nR cR v)(k:Kc c b v v')(a:w.heap.size+1<c)(d:w.heap.size+1<b):U9 w bH nH cH bR nR cR v':=
 ⟨k.belowB h.B h.B.size AB AB,(k.block _ (Ba h.X) AB AB).trans h.X,(k.block _ (Ba h.R) AB AB).trans h.R⟩
theorem U9.ft{q:Nat}(h:U9 w bH nH cH bR nR cR v)(k:Ft q v v')(a:w.heap.size+1<q):U9 w bH nH cH bR nR cR v':=
 ⟨h.B.trans ⟨k.os,k.tape,k.output,k.size,fun i b=>k.block i (by have:=h.B.size;omega) AB⟩,(k.block _ (Ba h.X) AB).trans h.X,(k.block _ (Ba h.R) AB).trans h.R⟩
theorem U9.cells(h:U9 w bH nH cH bR nR cR v):v.cell? ⟨w.heap.size,0,none⟩=some (Vs bH nH cH)/\v.cell? ⟨w.heap.size,1,none⟩=some (Vs bR nR cR)/\w.heap.size<v.heap.size:=⟨(AJ h.X 0).trans rfl,(AJ h.X 1).trans rfl,Ba h.X⟩
theorem U9.res(h:U9 w bH nH cH bR nR cR v):v.cell? ⟨w.heap.size+1,0,none⟩=some (Vi 0)/\v.cell? ⟨w.heap.size+1,1,none⟩=some (Vi 0)/\v.cell? ⟨w.heap.size+1,2,none⟩=some (.slice none 0 0)/\v.cell? ⟨w.heap.size+1,3,none⟩=some (Vi 0)/\v.cell? ⟨w.heap.size+1,4,none⟩=some (Vi 0)/\(∀i,v.frozen? ⟨w.heap.size+1,i,none⟩=false)/\w.heap.size+1<v.heap.size:=
 ⟨(AJ h.R 0).trans rfl,(AJ h.R 1).trans rfl,(AJ h.R 2).trans rfl,(AJ h.R 3).trans rfl,(AJ h.R 4).trans rfl,CP h.R,Ba h.R⟩
end
theorem Ee{B b:Nat}{w u:World}(h:Below B w u)(a:B<=b)(c d e j k:Value):Below B w (((((u.setCell (Va b 0) c).setCell (Va b 1) d).setCell (Va b 2) e).setCell (Va b 3) j).setCell (Va b 4) k):=
 ((((h.setCell (p:=Va b 0) a _).setCell (p:=Va b 1) a _).setCell (p:=Va b 2) a _).setCell (p:=Va b 3) a _).setCell (p:=Va b 4) a _
theorem fQ(w:World)(a e c b h d:Nat):∃y,(w.alloc (.cells #[Vs a e c,Vs b h d] 26)).alloc (.cells #[Vi 0,Vi 0,.slice none 0 0,Vi 0,Vi 0] 33)=y/\U9 w a e c b h d y:=by
 have m:=Az w (.cells (xL a e c b h d) 26);have l:=(Below.refl w.heap.size w).alloc BQ (.cells (xL a e c b h d) 26);unfold xL at m l;generalize n:w.alloc (.cells #[Vs a e c,Vs b h d] 26)=x at *;have o:x.heap.size=w.heap.size+1:=by rw[<-n];simp
 have k:=Az x (.cells SN 33);have j:=(Below.refl x.heap.size x).alloc BQ (.cells SN 33);unfold SN at k j;rw[o]at k;exact⟨_,rfl,l.trans (j.mono AB),(j.block _ AB).trans m,k⟩
end
section
open Go.RowKit Go.Deep
theorem ko(w:World):(Instr.makeMap 71 none).run Tryz.prog w=.ok (.map (some w.heap.size)) (w.alloc (.map #[] 0)):=AV
theorem QH(l o d:Nat)(S:Nat->HS)(bR cR K:Nat)(V:Nat->VV)(b n ah:Nat)(L:Nat->SV)(w:World)(lH:d<=1048576)(lR:K<=1048576)(ln:n<=1048576)(h1:Ck w l d S bR K V)(Q:Ak w b (n*11) (JW L))(hg:w.cell? (Va 0 0)=some (.iface 183 (.agg #[.pointer (some ⟨1,78,none⟩)])))(h0:0<w.heap.size):
 Ks 5 #[.agg #[Vs l d o,Vs bR K cR],Vs b n ah] w (wX (Ld d S K V L n) w):=by
 obtain⟨RR,Y⟩:=Au (Ld d S K V L n);rw[Y];have O:=hxy Y;have F:=hxy h1;have H2:=hxy Q;have HG:Hid (w.cell? (Va 0 0)=some (.iface 183 (.agg #[.pointer (some ⟨1,78,none⟩)]))/\0<w.heap.size):=⟨hg,h0⟩
 clear Y h1 Q hg h0;go_enter Tryz.func5,Tryz.ntmps5;go_upto_region 1 with fail;obtain⟨u,hu,pu⟩:=fQ w l d o bR K cR;rw[hu];have P0:=hxy pu;clear hu pu;obtain⟨s0,s1,sl⟩:=P0.cells;go_wp2_with fail;refine(Mw l o d S bR cR K V u lH lR ⟨F.h.below P0.B F.h.lt,F.r.below P0.B F.r.lt⟩).mono ?_;rintro e u1⟨rfl,E⟩;have P1:=hxy (P0.below E);clear E s0 s1 sl P0;obtain⟨ok,ab⟩:=Au (Db d S K V);rw[ab];have A:=hxy ab;clear ab;cases ok with
 |false=>
  have r0:=P1.res;go_wp2;refine mY (.agg #[Vi 11,Vi 0,.slice none 0 0,Vi 0,Vi 0]) (by simp[results,Tryz.results5,go_sem, *]) ⟨Ee P1.B AB _ _ _ _ _,Or.inl ⟨11,0,?_,rfl⟩⟩;rw[<-O.out,Ld,if_neg (by rw[A.out];decide)]
 |true=>
 go_wp2_with fail;refine(NK b n ah L u1 ln (H2.below P1.B H2.lt)).mono ?_;rintro e u2⟨ag,kt,ct,rfl,E,ht⟩;have I:=hxy (P1.below E);have HT:=hxy ht;clear E ht P1;by_cases a:Hq L n
 rotate_left
 ·rw[decide_eq_false a]
  have HN:=hxy a;clear a;have r0:=I.res;go_wp2;refine mY (.agg #[Vi 12,Vi 0,.slice none 0 0,Vi 0,Vi 0]) (by simp[results,Tryz.results5,go_sem, *]) ⟨Ee I.B AB _ _ _ _ _,Or.inl ⟨12,0,?_,rfl⟩⟩;rw[<-O.out,Ld,if_pos A.out,if_neg HN.out]
 rw[decide_eq_true a];have k:=hxy a;clear a;obtain⟨e8,h8,aj⟩:=Ja A;have ar:=hxy aj;subst e8;clear aj;have an:Hid (ET ⟨d,S,V⟩ (seg L 0 n) 0 ⟨Fe V,0,0⟩ 0=RR):=(by rw[<-O.out,Ld,if_pos A.out,if_pos k.out]:ET ⟨d,S,V⟩ (seg L 0 n) 0 ⟨Fe V,0,0⟩ 0=RR)
 obtain⟨s0,s1,sl⟩:=I.cells;have mm:=ko;go_upto_region 7 with fail;clear mm s0 s1 sl;obtain⟨u3,ak,b3,c3⟩:∃y,(u2.alloc (.map #[] 0)).alloc (.cells #[Vs l d o,Vi 0,.map (some u2.heap.size)] 73)=y/\Bw u2 y/\CS ⟨d,S,V⟩ L u2 (u2.heap.size+1) u2.heap.size l o 0 y 0:=by
  have m0:=JN.made u2 ⟨d,S,V⟩ L;have b0:=(Below.refl u2.heap.size u2).alloc BQ (.map #[] 0);generalize hx:u2.alloc (.map #[] 0)=x at *;have s0:x.heap.size=u2.heap.size+1:=by rw[<-hx];simp
  have n1:=Az x (.cells #[Vs l d o,Vi 0,.map (some u2.heap.size)] 73);have b1:=(Below.refl x.heap.size x).alloc BQ (.cells #[Vs l d o,Vi 0,.map (some u2.heap.size)] 73);rw[s0]at n1;have bb:=b0.trans (b1.mono AB);have hl:=F.h.lt;have hs:=I.B.size;exact⟨_,rfl,bb,bb,n1,m0.kept (b1.block _ AB),(F.h.below I.B hl).below bb AB,AB,AB,AB,AB,AB,AB,AB⟩
 rw[ak];have P3:=hxy (I.below b3);have C3:=hxy c3;have ad:=hxy (Ba I.R);have al:Hid (Kq ⟨d,S,V⟩ L u2 (u2.heap.size+1) u2.heap.size l o 0 n (.slice ag kt ct)):=Yr ⟨d,S,V⟩ L u2 (u2.heap.size+1) u2.heap.size l o (fun q=>u1.heap.size<=q) (n+1) 0 n 0 (.slice ag kt ct) (HT k) (Nat.zero_le _) k.1 k.2.1;clear ak b3 c3 I HT;generalize u2.heap.size=mb at *;obtain⟨s0,s1,sl⟩:=P3.cells;go_wp2_with fail;refine(TU bR cR (Fe V) 0 0 u3 (Lp (F.r.below P3.B F.r.lt))).mono ?_;rintro e u4⟨rfl,E⟩;have P4:=hxy (P3.below E);have C4:=hxy (C3.below E);obtain⟨FA,X⟩:∃x,x=fA ⟨Fe V,0,0⟩:=⟨_,rfl⟩
 have ap:=hxy X;rw[show CX (Fe V) 0 0=FA from X.symm];clear E X s0 s1 sl P3 C3;go_wp2_with fail;have aa:=al.out;unfold Kq at aa;refine(aa 0 u4 ⟨Fe V,0,0⟩ FA 0 ap C4 ar).mono ?_;rintro e u5⟨k5,hx⟩;rw[show((0:Nat):Int)=0 from rfl,an.out]at hx;have P5:Hid (U9 w l d o bR 8 cR u5):=P4.kc k5 (by have:=ad.out;omega) (by have:=ad.out;omega);clear aa k5 P4 C4;rcases hx with⟨B,r5,hR,gB,rfl,_⟩|⟨D,C,v,hR,hE,rfl⟩;rotate_left
 ·obtain⟨t,x,rfl⟩:=hE.shp
  have ao:=hxy hE;have N:=hxy hR;obtain⟨Z0,Z⟩:∃x,x=fA DC:=⟨_,rfl⟩
  have HZ:=hxy Z;rw[<-Z];clear hE hR Z;go_wp2_with(refine Aq rfl (.tmp 8) (.tmp 36) rfl u5.heap.size DC DC rfl Z0 HZ rfl (by rw[BX];exact BS.fresh _) ?_;intro u6 Q s hz);unfold Hid;rw[BX]at s;have P6:=hxy ((P5.below Ai).ft s (Ba P5.R));clear Q s hz P5;go_upto_region 9 with fail;obtain⟨u7,m,b7,f7⟩:∃y,u6.alloc (.cells #[Vi 0,Vi 0] 83)=y/\Bw u6 y/\y.heap[u6.heap.size]?=some (.cells #[Vi 0,Vi 0] 83):=⟨_,rfl,Ai,Az _ _⟩
  rw[m];have J:=hxy (P6.below b7);have F7:=hxy f7;have Q6:=hxy (Ba P6.R);clear m b7 f7 P6;generalize u6.heap.size=q6 at *;go_wp2_with fail;have au:=J.B.size;refine(Sn D C _ ao q6 _ _ u7 F7 ((J.B.cell (p:=Va 0 0) HG.2).trans HG.1) (by have:=HG.2;omega)).mono ?_;rintro e u8⟨rfl,s,j⟩;have P8:=hxy (J.ft s Q6);have f0:u8.cell? (Va q6 0)=some (Vi D):=(AJ j 0).trans rfl;have f1:u8.cell? (Va q6 1)=some (Vi C):=(AJ j 1).trans rfl;have fl:=Ba j;clear s j au J F7;have r0:=P8.res;go_wp2;refine mY (.agg #[Vi D,Vi C,.slice none 0 0,Vi 0,Vi 0]) (by simp[results,Tryz.results5,go_sem, *]) ⟨Ee P8.B AB _ _ _ _ _,Or.inl ⟨D,C,N,rfl⟩⟩
 have N:=hxy hR;obtain⟨BA,U⟩:∃x,x=fA B:=⟨_,rfl⟩
 have M:=hxy U;rw[<-U];clear gB hR U;go_wp2_with(refine Aq rfl (.tmp 8) (.tmp 36) rfl u5.heap.size B DC rfl BA M rfl (by rw[BX];exact BS.fresh _) ?_;intro u6 Q s hz);unfold Hid;rw[BX]at s;have P6:=hxy ((P5.below Ai).ft s (Ba P5.R));have ae:=hxy Q;clear Q s hz P5;generalize u5.heap.size=q5 at *;go_upto_region 9 with fail;obtain⟨u7,m,b7⟩:∃y,u6.alloc (.cells #[Vi 0,Vi 0] 83)=y/\Bw u6 y:=⟨_,rfl,Ai⟩
 rw[m];have J:=hxy (P6.below b7);have af:=hxy (ae.below b7);clear m b7 P6 ae;go_wp2_with fail;refine(uX _ _).mono ?_;rintro e w'⟨rfl,hw⟩;rw[hw];clear hw;go_wp2_with(refine BI rfl (.tmp 8) rfl q5 rfl B BA M af ?_);refine(Yd B.V B.z B.c BA M u7).mono ?_;rintro e u8⟨g,cg,hg,rfl,j,ai⟩;have P8:=hxy (J.below j);have am:=hxy ai;have ac:Hid (w.heap.size+1<g):=(by have:=Ba J.R;omega:w.heap.size+1<g)
 clear hg j ai J af;have r0:=P8.res;go_wp2;refine mY (.agg #[Vi 0,Vi 0,Vs g 8 cg,Vi B.z,Vi B.c]) (by simp[results,Tryz.results5,go_sem, *]) ⟨Ee P8.B AB _ _ _ _ _,Or.inr ⟨B,r5,g,cg,N,by have:=ac.out;omega,rfl,?_⟩⟩;iterate 5 refine Ak.other ?_ (by have:=ac.out;show w.heap.size+1≠g;omega) _
 exact am
end
end Go.Proofs.YtcjnmdgomocpgaaGreatDoor
