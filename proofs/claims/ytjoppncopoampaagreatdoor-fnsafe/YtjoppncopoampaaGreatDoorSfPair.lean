import Derived.Test.YtjoppncopoampaaGreatDoorOfCoreReg
import Derived.Test.YtjoppncopoampaaGreatDoorOfFtFit
import Derived.Test.YtjoppncopoampaaGreatDoorOfRunMath
import Derived.Test.YtjoppncopoampaaGreatDoorOfCkAs
import Derived.Test.YtjoppncopoampaaGreatDoorOfUnitSpec
import Derived.Deep.CutBlock
set_option maxHeartbeats 16000000
set_option maxRecDepth 20000
namespace Go.Proofs.YtjoppncopoampaaGreatDoor
open Go.RowKit Go.Deep
variable {b:Nat}{u:World}
structure PZ(u3:World)(p:Nat)(ao:Option Addr)(n cap q7 gH gR nH:Nat)(nv:Array Value)(u:World):Prop where
 F:Fw p u3 u
 K:CJ u p ao n cap
 Q:u.heap[q7]?=some (.cells nv 32)
 H:∃f,Ak u gH (nH*3) f
 R:∃f,Ak u gR 8 f
 o1:u3.heap.size<=q7
 o2:u3.heap.size<=gH
 o3:u3.heap.size<=gR
 n1:gH≠q7
 n2:gR≠q7
 n3:gH≠gR
 pw:p<u3.heap.size
section
variable{u3 u u':World}{p n cap q7 gH gR nH:Nat}{ao:Option Addr}{nv:Array Value}
theorem PZ.fw(h:PZ u3 p ao n cap q7 gH gR nH nv u)(f:Fw p u u')(c:CJ u' p ao n cap):PZ u3 p ao n cap q7 gH gR nH nv u':=by
 have:=h.o1;have:=h.o2;have:=h.o3;have:=h.pw;obtain⟨d,a⟩:=h.H;obtain⟨e,b⟩:=h.R;exact⟨h.F.trans f,c,Hr h.Q f AB,⟨d,f.arr a AB⟩,⟨e,f.arr b AB⟩,h.o1,h.o2,h.o3,h.n1,h.n2,h.n3,h.pw⟩
theorem PZ.putH(h:PZ u3 p ao n cap q7 gH gR nH nv u){j:Nat}(k:j<nH*3)(v:Value):PZ u3 p ao n cap q7 gH gR nH nv (u.setCell (Va gH j) v):=by
 have:=h.o2;have:=h.pw;obtain⟨l,b⟩:=h.H;obtain⟨d,c⟩:=h.R;exact⟨h.F.put h.o2 _ _,h.K.put AB _ _,Ao h.Q (fun e=>h.n1 e.symm) _ _,⟨_,b.setU j k v⟩,⟨d,c.other (a:=Va gH j) h.n3 _⟩,h.o1,h.o2,h.o3,h.n1,h.n2,h.n3,h.pw⟩
theorem PZ.putR(h:PZ u3 p ao n cap q7 gH gR nH nv u){j:Nat}(k:j<8)(v:Value):PZ u3 p ao n cap q7 gH gR nH nv (u.setCell (Va gR j) v):=by
 have:=h.o3;have:=h.pw;obtain⟨d,b⟩:=h.H;obtain⟨l,c⟩:=h.R;exact⟨h.F.put h.o3 _ _,h.K.put AB _ _,Ao h.Q (fun e=>h.n2 e.symm) _ _,⟨d,b.other (a:=Va gR j) (fun e=>h.n3 e.symm) _⟩,⟨_,c.setU j k v⟩,h.o1,h.o2,h.o3,h.n1,h.n2,h.n3,h.pw⟩
end
def SQ(q6 q7:Nat)(a6 a7:Array Value)(u:World):Prop:=u.heap[q6]?=some (.cells a6 32)/\u.heap[q7]?=some (.cells a7 32)
def JP(u:World)(b:Nat)(a0 a1 a2 a3 a4 a5 a6 a7 a8:Value):World:=((((((((u.setCell (Va b 0) a0).setCell (Va b 1) a1).setCell (Va b 2) a2).setCell (Va b 3) a3).setCell (Va b 4) a4).setCell (Va b 5) a5).setCell (Va b 6) a6).setCell (Va b 7) a7).setCell (Va b 8) a8
theorem CY{P:World->Prop}(h:P u)(k:∀w j v,P w->P (w.setCell (Va b j) v))(a c d e l m n o p:Value):P (JP u b a c d e l m n o p):=k _ _ _ (k _ _ _ (k _ _ _ (k _ _ _ (k _ _ _ (k _ _ _ (k _ _ _ (k _ _ _ (k _ _ _ h))))))))
theorem Lv{t:Nat}{a Q p x3 x4 n I J r:Value}(h:u.heap[b]?=some (.cells #[a,Q,p,x3,x4,n,I,J,r] t))(c d e j l m o q s:Value):(JP u b c d e j l m o q s).heap[b]?=some (.cells #[c,d,e,j,l,m,o,q,s] t):=
 by
  have k:=BG (BG (BG (BG (BG (BG (BG (BG (BG h 0 c) 1 d) 2 e) 3 j) 4 l) 5 m) 6 o) 7 q) 8 s;unfold JP;simpa only[List.setIfInBounds_toArray,List.set_cons_zero,List.set_cons_succ]using k
theorem Bq{t:Nat}{a Q p x3 x4 n I J r:Value}(h:u.heap[b]?=some (.cells #[a,Q,p,x3,x4,n,I,J,r] t)):u.cell? (Va b 0)=some a/\u.cell? (Va b 1)=some Q/\u.cell? (Va b 2)=some p/\u.cell? (Va b 3)=some x3/\u.cell? (Va b 4)=some x4/\u.cell? (Va b 5)=some n/\u.cell? (Va b 6)=some I/\u.cell? (Va b 7)=some J/\u.cell? (Va b 8)=some r:=
 ⟨AJ h 0,AJ h 1,AJ h 2,AJ h 3,AJ h 4,AJ h 5,AJ h 6,AJ h 7,AJ h 8⟩
theorem ML.putlt{B r:Nat}{m:Md}(h:ML B m u)(l:r<B)(j:Nat)(v:Value):ML B m (u.setCell (Va r j) v):=
 have k:∀{e s a:Nat}{b:Value}{c:List Value},u.ownsRow B e s b a c->(u.setCell (Va r j) v).ownsRow B e s b a c:=fun h=>CV h (fun e=>by have:=iJ h e;omega) j v
 ⟨k h.R,k h.H,k h.O,fun x d=>k (h.D x d),h.rr,h.hr⟩
theorem ML.dn{B J:Nat}{m:Md}(h:ML B m u)(a:J<=B):ML J m u:=⟨Ke h.R a,Ke h.H a,Ke h.O a,fun x b=>Ke (h.D x b) a,h.rr,h.hr⟩
def TQ(p:Nat)(ao:Option Addr)(n cap:Nat)(u w':World):Prop:=Fw p u w'/\CJ w' p ao n cap
theorem OL(p:Nat)(ao:Option Addr)(n cap:Nat)(bH cH nH:Nat)(S:Nat->HS)(bR cR:Nat)(V:Nat->VV)(w:World)(hc:CJ w p ao n cap)(hS:Ak w bH (nH*3) (Ur S))(hV:Ak w bR (8*6) (vF V))(hp1:bH≠p)(hp2:bR≠p)(k1:1<=nH)(n8:nH<=4)(hsz:∀i,i<nH->1<=(S i).size/\(S i).size<=4096)(hgv:∀i,i<8->GV (V i) nH):
 Calls Tryz.prog 16 #[.pointer (some ⟨p,0,none⟩),.agg #[.slice (some ⟨bH,0,none⟩) nH cH,.slice (some ⟨bR,0,none⟩) 8 cR]] w fun e w'=>∃(m:Md)(gR cg gH ch:Nat)(aO:Option Addr)(cO:Nat),e=.returned (.tuple #[.agg m.a,.agg #[.slice (some ⟨gR,0,none⟩) 8 cg,.bool false,.bool false,.bool false,.bool false,.slice (some ⟨gH,0,none⟩) nH ch,.int .i64 0,.int .i64 0,.slice aO 0 cO]])/\OH m nH S V/\ML w.heap.size m w'/\Fw p w w'/\CJ w' p ao n cap:=by
 have HS:=hxy hS;have HV:=hxy hV;have HSZ:=hxy hsz;have HGV:=hxy hgv;have HC:=hxy hc;have lp:p<w.heap.size:=hc.lt;clear hS hV hsz hgv hc;go_enter Tryz.func16,Tryz.ntmps16;go_upto_region 1 with fail;obtain⟨u0,hu0,b0,z3,z4,z5⟩:∃y,((w.alloc (.cells #[.slice (some ⟨bH,0,none⟩) nH cH,.slice (some ⟨bR,0,none⟩) 8 cR] 26)).alloc (.cells #[.slice none 0 0,.bool false,.bool false,.bool false,.bool false,.slice none 0 0,.int .i64 0,.int .i64 0,.slice none 0 0] 32)).alloc (.cells #[.slice none 0 0,.bool false,.bool false,.bool false,.bool false,.slice none 0 0,.int .i64 0,.int .i64 0,.slice none 0 0] 32)=y/\Below w.heap.size w y/\y.heap[w.heap.size]?=some (.cells #[.slice (some ⟨bH,0,none⟩) nH cH,.slice (some ⟨bR,0,none⟩) 8 cR] 26)/\y.heap[w.heap.size+1]?=some (.cells GQ.a 32)/\y.heap[w.heap.size+1+1]?=some (.cells GQ.a 32):=by
  generalize ha:w.alloc (.cells #[.slice (some ⟨bH,0,none⟩) nH cH,.slice (some ⟨bR,0,none⟩) 8 cR] 26)=a;have sa:a.heap.size=w.heap.size+1:=by rw[<-ha];simp
  have ea:a.heap[w.heap.size]?=some (.cells #[.slice (some ⟨bH,0,none⟩) nH cH,.slice (some ⟨bR,0,none⟩) 8 cR] 26):=by rw[<-ha];exact Az _ _
  have ba:Below w.heap.size w a:=by rw[<-ha];exact Ai
  generalize hb:a.alloc (.cells #[.slice none 0 0,.bool false,.bool false,.bool false,.bool false,.slice none 0 0,.int .i64 0,.int .i64 0,.slice none 0 0] 32)=b;have sb:b.heap.size=w.heap.size+1+1:=by rw[<-hb];simp[sa]
  have bb:Below a.heap.size a b:=by rw[<-hb];exact Ai
  have eb:b.heap[w.heap.size+1]?=some (.cells GQ.a 32):=by rw[<-hb,<-sa];exact Az _ _
  have bc:Below b.heap.size b (b.alloc (.cells #[.slice none 0 0,.bool false,.bool false,.bool false,.bool false,.slice none 0 0,.int .i64 0,.int .i64 0,.slice none 0 0] 32)):=Ai;exact⟨_,rfl,(ba.trans (bb.mono ba.size)).trans (bc.mono (by omega)),Ac (Ac ea bb) bc,Ac eb bc,by rw[<-sb];exact Az _ _⟩
 rw[hu0];obtain⟨r,hrr⟩:=Au (w.heap.size);have HRR:=hxy hrr;have pr:p<r:=by omega
 have C0:=hxy (HC.out.below b0);have S0:=hxy (HS.out.below b0 HS.out.lt);have V0:=hxy (HV.out.below b0 HV.out.lt);have lH:bH<r:=by have:=HS.out.lt;omega
 have lR:bR<r:=by have:=HV.out.lt;omega
 have B0:Hid (Below w.heap.size w u0):=b0;rw[hrr]at z3 z4 z5⊢;have lz:r+1+1<u0.heap.size:=Bp z5;have Z0:Hid (u0.heap[r]?=some (.cells #[.slice (some ⟨bH,0,none⟩) nH cH,.slice (some ⟨bR,0,none⟩) 8 cR] 26)/\u0.heap[r+1]?=some (.cells GQ.a 32)/\u0.heap[r+1+1]?=some (.cells GQ.a 32)):=⟨z3,z4,z5⟩
 have x0:=(AJ z3 0).trans rfl;have x1:=(AJ z3 1).trans rfl;clear hu0 b0 z3 z4 z5 hrr HC HS HV;go_wp2_with fail;refine(QS p ao n cap bH cH nH S bR cR V u0 C0.out S0.out V0.out hp1 hp2 n8 HSZ.out HGV.out).mono ?_;rintro e u2⟨m,rfl,hfm,d2⟩;clear x0 x1;obtain⟨ra,rc,hvR⟩:=Cf d2.R;obtain⟨ha,hcp,hvH⟩:=Cf d2.H;have hf:=hfm.h.form;have HFM:Hid (OH m nH S V):=hfm;clear hfm;obtain⟨vR,gz,gc,ghz,ghc,vH,pc,st,vO,rs,hs,os⟩:=m;unfold GQ at hf;dsimp only at hf hvR hvH;injection hf with _ e1 e2 e3 e4 _ e6 e7 e8 _ _ e11;subst hvR hvH e1 e2 e3 e4 e6 e7 e8 e11;have W2:=hxy d2;have hnh:hs.length=nH:=HFM.out.nh;have HNR:=hxy HFM.out.nr;clear d2;subst hnh;unfold Md.a;dsimp only;go_upto_region 2 with fail;obtain⟨u3,hu3,b3,q3⟩:∃y,u2.alloc (.cells #[.slice ra rs.length rc,.bool false,.bool false,.bool false,.bool false,.slice ha hs.length hcp,.int .i64 0,.int .i64 0,.slice none 0 0] 32)=y/\Below u2.heap.size u2 y/\y.heap[u2.heap.size]?=some (.cells #[.slice ra rs.length rc,.bool false,.bool false,.bool false,.bool false,.slice ha hs.length hcp,.int .i64 0,.int .i64 0,.slice none 0 0] 32):=⟨_,rfl,Ai,Az _ _⟩
 rw[hu3];obtain⟨q6,hq6⟩:=Au (u2.heap.size);have h02:u0.heap.size<=u2.heap.size:=W2.out.F.size;rw[hq6]at q3 h02⊢;have W3:=hxy (W2.out.below b3);have Q3:=hxy q3;have l6:q6<u3.heap.size:=Bp q3;have x0:=(AJ q3 0).trans rfl;have x1:=(AJ q3 1).trans rfl;have x2:=(AJ q3 2).trans rfl;have x3:=(AJ q3 3).trans rfl;have x4:=(AJ q3 4).trans rfl;have x5:=(AJ q3 5).trans rfl;have x6:=(AJ q3 6).trans rfl;have x7:=(AJ q3 7).trans rfl;have x8:=(AJ q3 8).trans rfl;clear hu3 b3 q3 hq6 W2;have HLN:Hid (∀i,i<hs.length->1<=(hL hs i).len/\(hL hs i).len<=4096):=fun i hi=>by
  have k:=(HFM.out.h.heap i hi).1;have k2:=HSZ.out i (by omega);show 1<=(hs.getD i hd0).ds.length/\(hs.getD i hd0).ds.length<=4096;dsimp only at k;omega
 obtain⟨g1,g2,g3,hg⟩:=ML.g (rs:=rs) (hs:=hs) (os:=[]) W3.out.ml (W3.out.F.arr S0.out hp1);have HG:Hid _:=hg;clear hg;go_wp2_with fail;refine(Wn ra rc g1 rs.length (rL rs) false false false false ha hcp g2 hs.length (hL hs) (aL hs) (cL hs) 0 0 none 0 g3 0 (kL []) (vL []) u3 HNR.out (by omega) (by omega) HLN.out HG.out).mono ?_;rintro e u4⟨P,rfl,b4,m4⟩;clear x0 x1 x2 x3 x4 x5 x6 x7 x8 HG;have hh:=m4.heaps;dsimp only at hh;obtain⟨gH,ch,hv⟩:=G8 hh (show 0<hs.length by omega);obtain⟨bR',cg,aH',ch',blk',cap',aO,cO⟩:=P;dsimp only at hv hh m4⊢;simp only[Value.slice.injEq,true_and]at hv;obtain⟨rfl,rfl⟩:=hv;obtain⟨gR,hgR⟩:=Au (bR');subst hgR;have rr:=Fv m4.regs;have rh:=Fv m4.heaps;dsimp only at rr rh;have RR:Hid _:=rr;have RH:Hid _:=rh;have B4:=hxy b4;have n3:gH≠bR':=by
  have:=Fu (Aj m4.heaps m4.regs (by decide));simpa[Value.ownBlock]using this
 clear rr rh b4 m4 hh;go_upto_region 3 with fail;obtain⟨u5,hu5,P5⟩:∃y,u4.alloc (.cells #[.slice (some ⟨bR',0,none⟩) 8 cg,.bool false,.bool false,.bool false,.bool false,.slice (some ⟨gH,0,none⟩) hs.length ch',.int .i64 0,.int .i64 0,.slice aO 0 cO] 32)=y/\PZ u3 p ao n cap u4.heap.size gH bR' hs.length #[.slice (some ⟨bR',0,none⟩) 8 cg,.bool false,.bool false,.bool false,.bool false,.slice (some ⟨gH,0,none⟩) hs.length ch',.int .i64 0,.int .i64 0,.slice aO 0 cO] y:=by
  have b:Below u4.heap.size u4 (u4.alloc (.cells #[.slice (some ⟨bR',0,none⟩) 8 cg,.bool false,.bool false,.bool false,.bool false,.slice (some ⟨gH,0,none⟩) hs.length ch',.int .i64 0,.int .i64 0,.slice aO 0 cO] 32)):=Ai;have rr:=RR.out;have rh:=RH.out;have b4:=B4.out;have l1:=rh.2.2.2.lt;have l2:=rr.2.2.2.lt;exact⟨_,rfl,(Fw.of_below b4).trans (.of_below b),(W3.out.K.below b4).below b,Az _ _,⟨_,rh.2.2.2.below b l1⟩,⟨_,rr.2.2.2.below b l2⟩,b4.size,rh.1,rr.1,by omega,by omega,n3,by omega⟩
 rw[hu5];obtain⟨q7,hq7⟩:=Au (u4.heap.size);rw[hq7]at P5⊢;have X5:=hxy P5;have l36:q6<u3.heap.size:=l6;have l03:u0.heap.size<=u3.heap.size:=W3.out.F.size;clear hu5 hq7 P5 RR RH B4;obtain⟨nv,hnv⟩:=Au (#[Value.slice (some ⟨bR',0,none⟩) 8 cg,.bool false,.bool false,.bool false,.bool false,.slice (some ⟨gH,0,none⟩) hs.length ch',.int .i64 0,.int .i64 0,.slice aO 0 cO]);have HNV:=hxy hnv;rw[hnv]at X5;clear hnv;go_upto_block 0 with fail;go_cut [](fun wx=>PZ u3 p ao n cap q7 gH bR' hs.length nv wx)
 case first=>
  go_wp2_with fail;go_loopw [8](fun i wr=>∃k:Nat,k<=hs.length/\i=.int .i64 k/\PZ u3 p ao n cap q7 gH bR' hs.length nv wr)(fun iv _=>((hs.length:Int)-intOf iv).toNat)
  case atStart=>exact⟨0,by omega,rfl,X5.out⟩
  case round=>
  obtain⟨k,hk,rfl,hz⟩:=hrel;have XR:=hxy hz;have s0:wr.cell? ⟨r,0,none⟩=some (.slice (some ⟨bH,0,none⟩) hs.length cH):=(hz.F.cell (show r<u3.heap.size by omega) (by omega)).trans ((W3.out.F.cell (show r<u0.heap.size by omega) (by omega)).trans ((AJ Z0.out.1 0).trans rfl));have lr:r<wr.heap.size:=by have:=hz.F.size;omega
  have SR:=hxy (hz.F.arr (W3.out.F.arr S0.out hp1) hp1);clear hz;by_cases hlt:k<hs.length
  rotate_left
  ·have hlt':¬(k:Int)<hs.length:=by omega
   go_wp2_with fail;go_meet;exact XR.out
  ·have hlt':(k:Int)<hs.length:=by omega
   obtain⟨y0,y1,y2⟩:=Sw SR.out hlt;have hsk:=HSZ.out k hlt;have ly:bH<wr.heap.size:=SR.out.lt;go_upto_region 6 with fail;cases hb:(S k).s with
   |false=>
    rw[hb]at y1;go_wp2_with fail;go_roundw
    case rel=>exact⟨k+1,by omega,by go_num,XR.out⟩
    case measure=>simp[intOf];omega
   |true=>
    rw[hb]at y1;go_upto_region 7 with fail;obtain⟨sz,hsz⟩:=Au ((S k).size);rw[hsz]at y0 hsk;have tq:TQ p ao n cap wr wr.drew:=⟨.of_below (Below.refl _ _).drew,XR.out.K.below (Below.refl _ _).drew⟩
    have HNC:Hid (wr.heap[q7]?=some (.cells #[.slice (some ⟨bR',0,none⟩) 8 cg,.bool false,.bool false,.bool false,.bool false,.slice (some ⟨gH,0,none⟩) hs.length ch',.int .i64 0,.int .i64 0,.slice aO 0 cO] 32)):=by rw[HNV.out];exact XR.out.Q
    have lq:q7<wr.heap.size:=Bp XR.out.Q;have pq:q7≠p:=by have:=XR.out.o1;have:=XR.out.pw;omega
    have pr':r≠p:=by omega
    have j5:∀w',TQ p ao n cap wr w'->w'.cell? ⟨q7,5,none⟩=some (.slice (some ⟨gH,0,none⟩) hs.length ch'):=fun w' h=>(h.1.cell lq pq).trans ((AJ HNC.out 5).trans rfl)
    have jr:∀w',TQ p ao n cap wr w'->w'.cell? ⟨r,0,none⟩=some (.slice (some ⟨bH,0,none⟩) hs.length cH):=fun w' h=>(h.1.cell lr pr').trans s0
    have jy:∀w',TQ p ao n cap wr w'->w'.cell? ⟨bH,k*3,none⟩=some (.int .i64 sz):=fun w' h=>(h.1.cell ly hp1).trans y0
    have hkh:(k:Int)<hs.length:=by omega
    have pg:gH≠p:=by have:=XR.out.o2;have:=XR.out.pw;omega
    obtain⟨fv,av⟩:=XR.out.H;have jc:∀w',TQ p ao n cap wr w'->w'.cell? ⟨gH,k*3+2,none⟩=some (fv (k*3+2)):=fun w' h=>(h.1.arr av pg).cell (by omega)
    have jf:∀w',TQ p ao n cap wr w'->w'.frozen? ⟨gH,k*3+2,none⟩=false:=fun w' h=>(h.1.arr av pg).free _
    clear av;clear s0 y0 y1 y2;refine BH (T:=fun w'=>TQ p ao n cap wr w') (s:=13) (by kernel_rfl) tq (fun hHeld=>?_);refine Bt 0 ?_;refine Bt 1 ?_;refine Bt 2 ?_;refine Bt 3 ?_;refine Bt 4 ?_;refine Bt 5 ?_;refine Bt 6 ?_;refine Bt 7 ?_;refine Bt 8 ?_;refine Bt 9 ?_;refine Ah (i:=10) rfl (by kernel_rfl) (fun KK hK=>?_);go_simp;refine(Ki p ao n cap sz _ (by omega) (by omega) tq.2).mono ?_;rintro e wy⟨v,rfl,ds,hdl,hdr,hrow,f,c⟩;obtain⟨va,vc,rfl⟩:=Cf hrow;have tq1:TQ p ao n cap wr wy:=⟨tq.1.trans f,c⟩
    have XY:=hxy (XR.out.fw tq1.1 c);clear hrow hdl hdr f c;go_wp2_with fail;refine hK.out _ _ tq1 (fun hHeld1=>?_);clear hK KK;refine Bt 11 ?_;refine Bt 12 ?_;refine BD rfl (by kernel_rfl) (by kernel_rfl) (fun KK hK=>?_);go_simp;refine hK.out _ _ ?_;clear hK KK;go_wp2;go_roundw
    case rel=>exact⟨k+1,by omega,by go_num,XY.out.putH (j:=k*3+2) (by omega) _⟩
    case measure=>simp[intOf];omega
 case rest=>
 have X6:=hxy hcut;generalize wc=u6 at *;clear hcut X5;go_upto_block 2 with fail;go_cut [](fun wx=>PZ u3 p ao n cap q7 gH bR' hs.length nv wx)
 case first=>
  go_wp2_with fail;go_loopw [9](fun i wr=>∃k:Nat,k<=8/\i=.int .i64 k/\PZ u3 p ao n cap q7 gH bR' hs.length nv wr)(fun iv _=>(8-intOf iv).toNat)
  case atStart=>exact⟨0,by omega,rfl,X6.out⟩
  case round=>
  obtain⟨k,hk,rfl,hz⟩:=hrel;have XR:=hxy hz;have s1:wr.cell? ⟨r,1,none⟩=some (.slice (some ⟨bR,0,none⟩) 8 cR):=(hz.F.cell (show r<u3.heap.size by omega) (by omega)).trans ((W3.out.F.cell (show r<u0.heap.size by omega) (by omega)).trans ((AJ Z0.out.1 1).trans rfl));have lr:r<wr.heap.size:=by have:=hz.F.size;omega
  have VR:=hxy (hz.F.arr (W3.out.F.arr V0.out hp2) hp2);have Q6R:Hid (wr.heap[q6]?=some (.cells #[.slice ra rs.length rc,.bool false,.bool false,.bool false,.bool false,.slice ha hs.length hcp,.int .i64 0,.int .i64 0,.slice none 0 0] 32)):=Hr Q3.out hz.F (by omega);have HHR:Hid (wr.ownsRow u0.heap.size 47 3 (.slice ha hs.length hcp) hs.length (hs.flatMap ZU)):=Eb W3.out.H hz.F (by omega);clear hz;by_cases hlt:k<8
  rotate_left
  ·have hlt':¬(k:Int)<8:=by omega
   go_wp2_with fail;go_meet;exact XR.out
  ·have hlt':(k:Int)<8:=by omega
   obtain⟨y0,y1,y2,y3,y4,y5⟩:=Un VR.out hlt;have ly:bR<wr.heap.size:=VR.out.lt;go_upto_region 11 with fail;cases hb:(V k).s with
   |false=>
    rw[hb]at y1;go_wp2_with fail;go_roundw
    case rel=>exact⟨k+1,by omega,by go_num,XR.out⟩
    case measure=>simp[intOf];omega
   |true=>
    rw[hb]at y1;go_upto_region 12 with fail;have hgk:=HGV.out k hlt;have HGK:=hxy hgk;obtain⟨vk,hvk⟩:=Au (V k);rw[hvk]at y0 y2 y3 y4 y5 HGK hb;have tq:TQ p ao n cap wr wr.drew:=⟨.of_below (Below.refl _ _).drew,XR.out.K.below (Below.refl _ _).drew⟩
    have l6':q6<wr.heap.size:=Bp Q6R.out;have p6:q6≠p:=by omega
    have pr':r≠p:=by omega
    have j5:∀w',TQ p ao n cap wr w'->w'.cell? ⟨q6,5,none⟩=some (.slice ha hs.length hcp):=fun w' h=>(h.1.cell l6' p6).trans ((AJ Q6R.out 5).trans rfl)
    have jr:∀w',TQ p ao n cap wr w'->w'.cell? ⟨r,1,none⟩=some (.slice (some ⟨bR,0,none⟩) 8 cR):=fun w' h=>(h.1.cell lr pr').trans s1
    have t0:∀w',TQ p ao n cap wr w'->w'.cell? ⟨bR,k*6,none⟩=some (.int .i64 vk.k):=fun w' h=>(h.1.cell ly hp2).trans y0
    have t1:∀w',TQ p ao n cap wr w'->w'.cell? ⟨bR,k*6+1,none⟩=some (.bool true):=fun w' h=>(h.1.cell ly hp2).trans y1
    have t2:∀w',TQ p ao n cap wr w'->w'.cell? ⟨bR,k*6+2,none⟩=some (.int .i64 vk.m):=fun w' h=>(h.1.cell ly hp2).trans y2
    have t3:∀w',TQ p ao n cap wr w'->w'.cell? ⟨bR,k*6+3,none⟩=some (.int .i64 vk.h):=fun w' h=>(h.1.cell ly hp2).trans y3
    have t4:∀w',TQ p ao n cap wr w'->w'.cell? ⟨bR,k*6+4,none⟩=some (.int .i64 vk.lo):=fun w' h=>(h.1.cell ly hp2).trans y4
    have t5:∀w',TQ p ao n cap wr w'->w'.cell? ⟨bR,k*6+5,none⟩=some (.int .i64 vk.hi):=fun w' h=>(h.1.cell ly hp2).trans y5
    have HB:=hxy hb;clear s1 y0 y1 y2 y3 y4 y5 hgk hb hvk;refine wp_region_held_drew (S:=fun w'=>TQ p ao n cap wr w') (by kernel_rfl) tq (fun hHeld=>?_);refine AU 0 ?_;refine AU 1 ?_;refine AU 2 ?_;refine AU 3 ?_;refine AU 4 ?_;refine AU 5 ?_;refine AU 6 ?_;refine AU 7 ?_;refine AO 8 rfl (fun KK hK=>?_);go_simp;go_simp;rw[<-HB.out];refine(KQ p ao n cap vk ha hcp u0.heap.size hs _ HGK.out tq.2 ?rowH (by omega) (by omega)).mono ?_
    case rowH=>exact Eb HHR.out tq.1 (by omega)
    rintro e wy⟨x,rfl,_,_,f,c⟩;have tq1:TQ p ao n cap wr wy:=⟨tq.1.trans f,c⟩
    have XY:=hxy (XR.out.fw tq1.1 c);clear f c;go_wp2_with fail;refine hK.out _ _ tq1 (fun hHeld1=>?_);clear hK KK;refine AU 9 ?_;refine wpAnyH_done (by kernel_rfl) ?_ _;have HNC:Hid (wy.heap[q7]?=some (.cells #[.slice (some ⟨bR',0,none⟩) 8 cg,.bool false,.bool false,.bool false,.bool false,.slice (some ⟨gH,0,none⟩) hs.length ch',.int .i64 0,.int .i64 0,.slice aO 0 cO] 32)):=by rw[HNV.out];exact XY.out.Q
    have c0:=(AJ HNC.out 0).trans rfl;obtain⟨fv,av⟩:=XY.out.R;have cv:=av.cell hlt;have cf:=av.free k;have lg:bR'<wy.heap.size:=av.lt;clear av j5 jr t0 t1 t2 t3 t4 t5 tq tq1;go_wp2_with fail;go_roundw
    case rel=>exact⟨k+1,by omega,by go_num,XY.out.putR hlt _⟩
    case measure=>simp[intOf];omega
 case rest=>
 have X7:=hxy hcut;generalize wc=u7 at *;clear hcut X6;have Q6:Hid (u7.heap[q6]?=some (.cells #[.slice ra rs.length rc,.bool false,.bool false,.bool false,.bool false,.slice ha hs.length hcp,.int .i64 0,.int .i64 0,.slice none 0 0] 32)):=Hr Q3.out X7.out.F (by omega);have Q7:Hid (u7.heap[q7]?=some (.cells #[.slice (some ⟨bR',0,none⟩) 8 cg,.bool false,.bool false,.bool false,.bool false,.slice (some ⟨gH,0,none⟩) hs.length ch',.int .i64 0,.int .i64 0,.slice aO 0 cO] 32)):=by rw[HNV.out];exact X7.out.Q
 have FU:=hxy (W3.out.F.trans X7.out.F);have Z4:Hid (u7.heap[r+1]?=some (.cells GQ.a 32)):=Hr Z0.out.2.1 FU.out (by omega);have Z5:Hid (u7.heap[r+1+1]?=some (.cells GQ.a 32)):=Hr Z0.out.2.2 FU.out (by omega);have ML7:=hxy ((W3.out.fw X7.out.F X7.out.K).ml);have C7:=hxy X7.out.K;have hq67:q6<q7:=by have:=X7.out.o1;omega
 clear W3 X7 HLN HNV HSZ HGV S0 V0 Z0 Q3 HNR;go_upto_region 14 with fail;obtain⟨wA,hu8,b8⟩:∃y,u7.drew=y/\Below u7.heap.size u7 y:=⟨_,rfl,(Below.refl _ _).drew⟩
 have S8:Hid (SQ q6 q7 #[.slice ra rs.length rc,.bool false,.bool false,.bool false,.bool false,.slice ha hs.length hcp,.int .i64 0,.int .i64 0,.slice none 0 0] #[.slice (some ⟨bR',0,none⟩) 8 cg,.bool false,.bool false,.bool false,.bool false,.slice (some ⟨gH,0,none⟩) hs.length ch',.int .i64 0,.int .i64 0,.slice aO 0 cO] wA):=⟨Ac Q6.out b8,Ac Q7.out b8⟩
 have x0:∀w',SQ q6 q7 #[.slice ra rs.length rc,.bool false,.bool false,.bool false,.bool false,.slice ha hs.length hcp,.int .i64 0,.int .i64 0,.slice none 0 0] #[.slice (some ⟨bR',0,none⟩) 8 cg,.bool false,.bool false,.bool false,.bool false,.slice (some ⟨gH,0,none⟩) hs.length ch',.int .i64 0,.int .i64 0,.slice aO 0 cO] w'->w'.cell? ⟨q6,0,none⟩=some (.slice ra rs.length rc):=fun w' h=>(Bq h.1).1
 have x1:∀w',SQ q6 q7 #[.slice ra rs.length rc,.bool false,.bool false,.bool false,.bool false,.slice ha hs.length hcp,.int .i64 0,.int .i64 0,.slice none 0 0] #[.slice (some ⟨bR',0,none⟩) 8 cg,.bool false,.bool false,.bool false,.bool false,.slice (some ⟨gH,0,none⟩) hs.length ch',.int .i64 0,.int .i64 0,.slice aO 0 cO] w'->w'.cell? ⟨q6,1,none⟩=some (.bool false):=fun w' h=>(Bq h.1).2.1
 have x2:∀w',SQ q6 q7 #[.slice ra rs.length rc,.bool false,.bool false,.bool false,.bool false,.slice ha hs.length hcp,.int .i64 0,.int .i64 0,.slice none 0 0] #[.slice (some ⟨bR',0,none⟩) 8 cg,.bool false,.bool false,.bool false,.bool false,.slice (some ⟨gH,0,none⟩) hs.length ch',.int .i64 0,.int .i64 0,.slice aO 0 cO] w'->w'.cell? ⟨q6,2,none⟩=some (.bool false):=fun w' h=>(Bq h.1).2.2.1
 have x3:∀w',SQ q6 q7 #[.slice ra rs.length rc,.bool false,.bool false,.bool false,.bool false,.slice ha hs.length hcp,.int .i64 0,.int .i64 0,.slice none 0 0] #[.slice (some ⟨bR',0,none⟩) 8 cg,.bool false,.bool false,.bool false,.bool false,.slice (some ⟨gH,0,none⟩) hs.length ch',.int .i64 0,.int .i64 0,.slice aO 0 cO] w'->w'.cell? ⟨q6,3,none⟩=some (.bool false):=fun w' h=>(Bq h.1).2.2.2.1
 have x4:∀w',SQ q6 q7 #[.slice ra rs.length rc,.bool false,.bool false,.bool false,.bool false,.slice ha hs.length hcp,.int .i64 0,.int .i64 0,.slice none 0 0] #[.slice (some ⟨bR',0,none⟩) 8 cg,.bool false,.bool false,.bool false,.bool false,.slice (some ⟨gH,0,none⟩) hs.length ch',.int .i64 0,.int .i64 0,.slice aO 0 cO] w'->w'.cell? ⟨q6,4,none⟩=some (.bool false):=fun w' h=>(Bq h.1).2.2.2.2.1
 have x5:∀w',SQ q6 q7 #[.slice ra rs.length rc,.bool false,.bool false,.bool false,.bool false,.slice ha hs.length hcp,.int .i64 0,.int .i64 0,.slice none 0 0] #[.slice (some ⟨bR',0,none⟩) 8 cg,.bool false,.bool false,.bool false,.bool false,.slice (some ⟨gH,0,none⟩) hs.length ch',.int .i64 0,.int .i64 0,.slice aO 0 cO] w'->w'.cell? ⟨q6,5,none⟩=some (.slice ha hs.length hcp):=fun w' h=>(Bq h.1).2.2.2.2.2.1
 have x6:∀w',SQ q6 q7 #[.slice ra rs.length rc,.bool false,.bool false,.bool false,.bool false,.slice ha hs.length hcp,.int .i64 0,.int .i64 0,.slice none 0 0] #[.slice (some ⟨bR',0,none⟩) 8 cg,.bool false,.bool false,.bool false,.bool false,.slice (some ⟨gH,0,none⟩) hs.length ch',.int .i64 0,.int .i64 0,.slice aO 0 cO] w'->w'.cell? ⟨q6,6,none⟩=some (.int .i64 0):=fun w' h=>(Bq h.1).2.2.2.2.2.2.1
 have x7:∀w',SQ q6 q7 #[.slice ra rs.length rc,.bool false,.bool false,.bool false,.bool false,.slice ha hs.length hcp,.int .i64 0,.int .i64 0,.slice none 0 0] #[.slice (some ⟨bR',0,none⟩) 8 cg,.bool false,.bool false,.bool false,.bool false,.slice (some ⟨gH,0,none⟩) hs.length ch',.int .i64 0,.int .i64 0,.slice aO 0 cO] w'->w'.cell? ⟨q6,7,none⟩=some (.int .i64 0):=fun w' h=>(Bq h.1).2.2.2.2.2.2.2.1
 have x8:∀w',SQ q6 q7 #[.slice ra rs.length rc,.bool false,.bool false,.bool false,.bool false,.slice ha hs.length hcp,.int .i64 0,.int .i64 0,.slice none 0 0] #[.slice (some ⟨bR',0,none⟩) 8 cg,.bool false,.bool false,.bool false,.bool false,.slice (some ⟨gH,0,none⟩) hs.length ch',.int .i64 0,.int .i64 0,.slice aO 0 cO] w'->w'.cell? ⟨q6,8,none⟩=some (.slice none 0 0):=fun w' h=>(Bq h.1).2.2.2.2.2.2.2.2
 have y0:∀w',SQ q6 q7 #[.slice ra rs.length rc,.bool false,.bool false,.bool false,.bool false,.slice ha hs.length hcp,.int .i64 0,.int .i64 0,.slice none 0 0] #[.slice (some ⟨bR',0,none⟩) 8 cg,.bool false,.bool false,.bool false,.bool false,.slice (some ⟨gH,0,none⟩) hs.length ch',.int .i64 0,.int .i64 0,.slice aO 0 cO] w'->w'.cell? ⟨q7,0,none⟩=some (.slice (some ⟨bR',0,none⟩) 8 cg):=fun w' h=>(Bq h.2).1
 have y1:∀w',SQ q6 q7 #[.slice ra rs.length rc,.bool false,.bool false,.bool false,.bool false,.slice ha hs.length hcp,.int .i64 0,.int .i64 0,.slice none 0 0] #[.slice (some ⟨bR',0,none⟩) 8 cg,.bool false,.bool false,.bool false,.bool false,.slice (some ⟨gH,0,none⟩) hs.length ch',.int .i64 0,.int .i64 0,.slice aO 0 cO] w'->w'.cell? ⟨q7,1,none⟩=some (.bool false):=fun w' h=>(Bq h.2).2.1
 have y2:∀w',SQ q6 q7 #[.slice ra rs.length rc,.bool false,.bool false,.bool false,.bool false,.slice ha hs.length hcp,.int .i64 0,.int .i64 0,.slice none 0 0] #[.slice (some ⟨bR',0,none⟩) 8 cg,.bool false,.bool false,.bool false,.bool false,.slice (some ⟨gH,0,none⟩) hs.length ch',.int .i64 0,.int .i64 0,.slice aO 0 cO] w'->w'.cell? ⟨q7,2,none⟩=some (.bool false):=fun w' h=>(Bq h.2).2.2.1
 have y3:∀w',SQ q6 q7 #[.slice ra rs.length rc,.bool false,.bool false,.bool false,.bool false,.slice ha hs.length hcp,.int .i64 0,.int .i64 0,.slice none 0 0] #[.slice (some ⟨bR',0,none⟩) 8 cg,.bool false,.bool false,.bool false,.bool false,.slice (some ⟨gH,0,none⟩) hs.length ch',.int .i64 0,.int .i64 0,.slice aO 0 cO] w'->w'.cell? ⟨q7,3,none⟩=some (.bool false):=fun w' h=>(Bq h.2).2.2.2.1
 have y4:∀w',SQ q6 q7 #[.slice ra rs.length rc,.bool false,.bool false,.bool false,.bool false,.slice ha hs.length hcp,.int .i64 0,.int .i64 0,.slice none 0 0] #[.slice (some ⟨bR',0,none⟩) 8 cg,.bool false,.bool false,.bool false,.bool false,.slice (some ⟨gH,0,none⟩) hs.length ch',.int .i64 0,.int .i64 0,.slice aO 0 cO] w'->w'.cell? ⟨q7,4,none⟩=some (.bool false):=fun w' h=>(Bq h.2).2.2.2.2.1
 have y5:∀w',SQ q6 q7 #[.slice ra rs.length rc,.bool false,.bool false,.bool false,.bool false,.slice ha hs.length hcp,.int .i64 0,.int .i64 0,.slice none 0 0] #[.slice (some ⟨bR',0,none⟩) 8 cg,.bool false,.bool false,.bool false,.bool false,.slice (some ⟨gH,0,none⟩) hs.length ch',.int .i64 0,.int .i64 0,.slice aO 0 cO] w'->w'.cell? ⟨q7,5,none⟩=some (.slice (some ⟨gH,0,none⟩) hs.length ch'):=fun w' h=>(Bq h.2).2.2.2.2.2.1
 have y6:∀w',SQ q6 q7 #[.slice ra rs.length rc,.bool false,.bool false,.bool false,.bool false,.slice ha hs.length hcp,.int .i64 0,.int .i64 0,.slice none 0 0] #[.slice (some ⟨bR',0,none⟩) 8 cg,.bool false,.bool false,.bool false,.bool false,.slice (some ⟨gH,0,none⟩) hs.length ch',.int .i64 0,.int .i64 0,.slice aO 0 cO] w'->w'.cell? ⟨q7,6,none⟩=some (.int .i64 0):=fun w' h=>(Bq h.2).2.2.2.2.2.2.1
 have y7:∀w',SQ q6 q7 #[.slice ra rs.length rc,.bool false,.bool false,.bool false,.bool false,.slice ha hs.length hcp,.int .i64 0,.int .i64 0,.slice none 0 0] #[.slice (some ⟨bR',0,none⟩) 8 cg,.bool false,.bool false,.bool false,.bool false,.slice (some ⟨gH,0,none⟩) hs.length ch',.int .i64 0,.int .i64 0,.slice aO 0 cO] w'->w'.cell? ⟨q7,7,none⟩=some (.int .i64 0):=fun w' h=>(Bq h.2).2.2.2.2.2.2.2.1
 have y8:∀w',SQ q6 q7 #[.slice ra rs.length rc,.bool false,.bool false,.bool false,.bool false,.slice ha hs.length hcp,.int .i64 0,.int .i64 0,.slice none 0 0] #[.slice (some ⟨bR',0,none⟩) 8 cg,.bool false,.bool false,.bool false,.bool false,.slice (some ⟨gH,0,none⟩) hs.length ch',.int .i64 0,.int .i64 0,.slice aO 0 cO] w'->w'.cell? ⟨q7,8,none⟩=some (.slice aO 0 cO):=fun w' h=>(Bq h.2).2.2.2.2.2.2.2.2
 refine wp_region_held_drew (S:=SQ q6 q7 #[.slice ra rs.length rc,.bool false,.bool false,.bool false,.bool false,.slice ha hs.length hcp,.int .i64 0,.int .i64 0,.slice none 0 0] #[.slice (some ⟨bR',0,none⟩) 8 cg,.bool false,.bool false,.bool false,.bool false,.slice (some ⟨gH,0,none⟩) hs.length ch',.int .i64 0,.int .i64 0,.slice aO 0 cO]) (by kernel_rfl) (by rw[hu8];exact S8.out) (fun _=>?_);rw[hu8];have hS8:SQ q6 q7 #[.slice ra rs.length rc,.bool false,.bool false,.bool false,.bool false,.slice ha hs.length hcp,.int .i64 0,.int .i64 0,.slice none 0 0] #[.slice (some ⟨bR',0,none⟩) 8 cg,.bool false,.bool false,.bool false,.bool false,.slice (some ⟨gH,0,none⟩) hs.length ch',.int .i64 0,.int .i64 0,.slice aO 0 cO] wA:=S8.out;have E4:=hxy (Ac Z4.out b8);have E5:=hxy (Ac Z5.out b8);have ML8:=hxy (ML7.out.below b8);have C8:=hxy (C7.out.below b8);have F8:Hid (Fw p w wA):=((Fw.of_below B0.out).trans FU.out).trans (.of_below b8);clear hu8 b8 Q6 Q7 Z4 Z5 ML7 C7 FU;refine AU 0 ?_;refine AU 1 ?_;obtain⟨z0,z1,z2,z3,z4,z5,z6,z7,z8,zf,zl⟩:=z9 E4.out;refine AO 2 rfl (fun KK hK=>?_);go_simp;change KK _ (JP wA (r+1) (.slice ra rs.length rc) (.bool false) (.bool false) (.bool false) (.bool false) (.slice ha hs.length hcp) (.int .i64 0) (.int .i64 0) (.slice none 0 0));obtain⟨wB,hu9,G4,G5,GS,GM,GC,GF⟩:∃y,JP wA (r+1) (.slice ra rs.length rc) (.bool false) (.bool false) (.bool false) (.bool false) (.slice ha hs.length hcp) (.int .i64 0) (.int .i64 0) (.slice none 0 0)=y/\Hid (y.heap[r+1]?=some (.cells #[.slice ra rs.length rc,.bool false,.bool false,.bool false,.bool false,.slice ha hs.length hcp,.int .i64 0,.int .i64 0,.slice none 0 0] 32))/\Hid (y.heap[r+1+1]?=some (.cells GQ.a 32))/\SQ q6 q7 #[.slice ra rs.length rc,.bool false,.bool false,.bool false,.bool false,.slice ha hs.length hcp,.int .i64 0,.int .i64 0,.slice none 0 0] #[.slice (some ⟨bR',0,none⟩) 8 cg,.bool false,.bool false,.bool false,.bool false,.slice (some ⟨gH,0,none⟩) hs.length ch',.int .i64 0,.int .i64 0,.slice aO 0 cO] y/\Hid (ML u0.heap.size ⟨.slice ra rs.length rc,false,false,false,false,.slice ha hs.length hcp,0,0,.slice none 0 0,rs,hs,[]⟩ y)/\Hid (CJ y p ao n cap)/\Hid (Fw p w y):=by
  have hr0:=HRR.out;exact⟨_,rfl,Lv E4.out _ _ _ _ _ _ _ _ _,CY (P:=fun y=>y.heap[r+1+1]?=some (.cells GQ.a 32)) E5.out (fun _ j v h=>Ao h (by omega) j v) _ _ _ _ _ _ _ _ _,⟨CY (P:=fun y=>y.heap[q6]?=some (.cells #[.slice ra rs.length rc,.bool false,.bool false,.bool false,.bool false,.slice ha hs.length hcp,.int .i64 0,.int .i64 0,.slice none 0 0] 32)) hS8.1 (fun _ j v h=>Ao h (by omega) j v) _ _ _ _ _ _ _ _ _,CY (P:=fun y=>y.heap[q7]?=some (.cells #[.slice (some ⟨bR',0,none⟩) 8 cg,.bool false,.bool false,.bool false,.bool false,.slice (some ⟨gH,0,none⟩) hs.length ch',.int .i64 0,.int .i64 0,.slice aO 0 cO] 32)) hS8.2 (fun _ j v h=>Ao h (by omega) j v) _ _ _ _ _ _ _ _ _⟩,CY (P:=fun y=>ML u0.heap.size ⟨.slice ra rs.length rc,false,false,false,false,.slice ha hs.length hcp,0,0,.slice none 0 0,rs,hs,[]⟩ y) ML8.out (fun _ j v h=>h.putlt (by omega) j v) _ _ _ _ _ _ _ _ _,CY (P:=fun y=>CJ y p ao n cap) C8.out (fun _ j v h=>h.put (by omega) j v) _ _ _ _ _ _ _ _ _,CY (P:=fun y=>Fw p w y) F8.out (fun _ j v h=>h.put (by omega) j v) _ _ _ _ _ _ _ _ _⟩
 rw[hu9];refine hK.out _ _ GS (fun _=>?_);clear hK KK z0 z1 z2 z3 z4 z5 z6 z7 z8 zf zl hu9 E4 E5 S8 hS8 ML8 C8 F8;try go_frame
 obtain⟨z0,z1,z2,z3,z4,z5,z6,z7,z8,zf,zl⟩:=z9 G5.out;refine AO 3 rfl (fun KK hK=>?_);go_simp;change KK _ (JP wB (r+1+1) (.slice (some ⟨bR',0,none⟩) 8 cg) (.bool false) (.bool false) (.bool false) (.bool false) (.slice (some ⟨gH,0,none⟩) hs.length ch') (.int .i64 0) (.int .i64 0) (.slice aO 0 cO));obtain⟨wD,hu10,J4,J5,JS,JM,JC,JF⟩:∃y,JP wB (r+1+1) (.slice (some ⟨bR',0,none⟩) 8 cg) (.bool false) (.bool false) (.bool false) (.bool false) (.slice (some ⟨gH,0,none⟩) hs.length ch') (.int .i64 0) (.int .i64 0) (.slice aO 0 cO)=y/\Hid (y.heap[r+1]?=some (.cells #[.slice ra rs.length rc,.bool false,.bool false,.bool false,.bool false,.slice ha hs.length hcp,.int .i64 0,.int .i64 0,.slice none 0 0] 32))/\Hid (y.heap[r+1+1]?=some (.cells #[.slice (some ⟨bR',0,none⟩) 8 cg,.bool false,.bool false,.bool false,.bool false,.slice (some ⟨gH,0,none⟩) hs.length ch',.int .i64 0,.int .i64 0,.slice aO 0 cO] 32))/\SQ q6 q7 #[.slice ra rs.length rc,.bool false,.bool false,.bool false,.bool false,.slice ha hs.length hcp,.int .i64 0,.int .i64 0,.slice none 0 0] #[.slice (some ⟨bR',0,none⟩) 8 cg,.bool false,.bool false,.bool false,.bool false,.slice (some ⟨gH,0,none⟩) hs.length ch',.int .i64 0,.int .i64 0,.slice aO 0 cO] y/\Hid (ML u0.heap.size ⟨.slice ra rs.length rc,false,false,false,false,.slice ha hs.length hcp,0,0,.slice none 0 0,rs,hs,[]⟩ y)/\Hid (CJ y p ao n cap)/\Hid (Fw p w y):=by
  have hr0:=HRR.out;exact⟨_,rfl,CY (P:=fun y=>y.heap[r+1]?=some (.cells #[.slice ra rs.length rc,.bool false,.bool false,.bool false,.bool false,.slice ha hs.length hcp,.int .i64 0,.int .i64 0,.slice none 0 0] 32)) G4.out (fun _ j v h=>Ao h (by omega) j v) _ _ _ _ _ _ _ _ _,Lv G5.out _ _ _ _ _ _ _ _ _,⟨CY (P:=fun y=>y.heap[q6]?=some (.cells #[.slice ra rs.length rc,.bool false,.bool false,.bool false,.bool false,.slice ha hs.length hcp,.int .i64 0,.int .i64 0,.slice none 0 0] 32)) GS.1 (fun _ j v h=>Ao h (by omega) j v) _ _ _ _ _ _ _ _ _,CY (P:=fun y=>y.heap[q7]?=some (.cells #[.slice (some ⟨bR',0,none⟩) 8 cg,.bool false,.bool false,.bool false,.bool false,.slice (some ⟨gH,0,none⟩) hs.length ch',.int .i64 0,.int .i64 0,.slice aO 0 cO] 32)) GS.2 (fun _ j v h=>Ao h (by omega) j v) _ _ _ _ _ _ _ _ _⟩,CY (P:=fun y=>ML u0.heap.size ⟨.slice ra rs.length rc,false,false,false,false,.slice ha hs.length hcp,0,0,.slice none 0 0,rs,hs,[]⟩ y) GM.out (fun _ j v h=>h.putlt (by omega) j v) _ _ _ _ _ _ _ _ _,CY (P:=fun y=>CJ y p ao n cap) GC.out (fun _ j v h=>h.put (by omega) j v) _ _ _ _ _ _ _ _ _,CY (P:=fun y=>Fw p w y) GF.out (fun _ j v h=>h.put (by omega) j v) _ _ _ _ _ _ _ _ _⟩
 rw[hu10]
 refine hK.out _ _ JS (fun _=>?_)
 clear hK KK z0 z1 z2 z3 z4 z5 z6 z7 z8 zf zl hu10 G4 G5 GS GM GC GF
 try go_frame
 refine wpAnyH_done (by kernel_rfl) ?_ _
 clear x0 x1 x2 x3 x4 x5 x6 x7 x8 y0 y1 y2 y3 y4 y5 y6 y7 y8 JS
 obtain⟨x0,x1,x2,x3,x4,x5,x6,x7,x8⟩:=Bq J4.out
 obtain⟨y0,y1,y2,y3,y4,y5,y6,y7,y8⟩:=Bq J5.out
 go_wp2
 refine bodyPost_ret (v:=.tuple #[.agg #[.slice ra rs.length rc,.bool false,.bool false,.bool false,.bool false,.slice ha hs.length hcp,.int .i64 0,.int .i64 0,.slice none 0 0],.agg #[.slice (some ⟨bR',0,none⟩) 8 cg,.bool false,.bool false,.bool false,.bool false,.slice (some ⟨gH,0,none⟩) hs.length ch',.int .i64 0,.int .i64 0,.slice aO 0 cO]]) (by simp[results,Tryz.results16,go_sem,x0,x1,x2,x3,x4,x5,x6,x7,x8,y0,y1,y2,y3,y4,y5,y6,y7,y8]) rfl ⟨⟨.slice ra rs.length rc,false,false,false,false,.slice ha hs.length hcp,0,0,.slice none 0 0,rs,hs,[]⟩,bR',cg,gH,ch',aO,cO,rfl,HFM.out,JM.out.dn B0.out.size,JF.out,JC.out⟩
end Go.Proofs.YtjoppncopoampaaGreatDoor
