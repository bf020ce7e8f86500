import Derived.Test.YtiphbmhoifggiaaGreatDoorOfOpenProc
import Derived.Test.YtiphbmhoifggiaaGreatDoorOfMarkVals
import Derived.Test.YtiphbmhoifggiaaGreatDoorAsmMark
import Derived.Test.YtiphbmhoifggiaaGreatDoorPsSpec
import Derived.Test.YtiphbmhoifggiaaGreatDoorAsmParts
set_option maxHeartbeats 16000000
set_option maxRecDepth 20000
namespace Go.Proofs.YtiphbmhoifggiaaGreatDoor
open Go.RowKit
def markF(k:Int)(p:Nat):Value:=.int .i64 (k+(p:Int))
theorem markStmtS_at(b n cap:Nat)(f:Nat->Value)(k:Int)(w:World)(ln:n<=1048576)(k0:0<=k)(k1:k<=1125899906842624)(hA:Arr w b (n*11) f):
 Calls Tryz.prog 62 #[.slice (some ⟨b,0,none⟩) n cap,.int .i64 k] w fun e w'=>e=.returned (.int .i64 (k+11*(n:Int)))/\Ft b w w'/\Arr w' b (n*11) (markF k):=by
 have HA:Hid (Arr w b (n*11) f):=hA;clear hA;go_enter Tryz.func62,Tryz.ntmps62;go_wp2;go_loopw [1,5](fun kv iv wr=>∃j:Nat,j<=n/\kv=.int .i64 (k+11*(j:Int))/\iv=.int .i64 (j:Int)/\Ft b w wr/\Arr wr b (n*11) (upTo (markF k) f (j*11)))(fun _ iv _=>n-(intOf iv).toNat)
 case atStart=>exact⟨0,Nat.zero_le _,by simp,rfl,Ft.refl _ _,HA.out.congr fun i _=>by rw[Nat.zero_mul,upTo_zero]⟩
 case round=>
  obtain⟨j,hj,hkv,hiv,hf,ha⟩:=hrel;obtain⟨kj,hkj⟩:∃y:Int,k+11*(j:Int)=y:=⟨_,rfl⟩
  rw[hkj]at hkv;subst hkv hiv;have HKJ:Hid (k+11*(j:Int)=kj):=hkj;have kb0:0<=kj:=by omega
  have kb1:kj<=2251799813685248:=by omega
  have F2:Hid (Ft b w wr):=hf;have A2:Hid (Arr wr b (n*11) (upTo (markF k) f (j*11))):=ha;clear hf ha hkj;by_cases hlt:j<n
  ·have hlt':(j:Int)<(n:Int):=by omega
   have c0:=A2.out.cell (i:=j*11) (by omega);have c1:=A2.out.cell (i:=j*11+1) (by omega);have c2:=A2.out.cell (i:=j*11+2) (by omega);have c3:=A2.out.cell (i:=j*11+3) (by omega);have c4:=A2.out.cell (i:=j*11+4) (by omega);have c5:=A2.out.cell (i:=j*11+5) (by omega);have c6:=A2.out.cell (i:=j*11+6) (by omega);have c7:=A2.out.cell (i:=j*11+7) (by omega);have c8:=A2.out.cell (i:=j*11+8) (by omega);have c9:=A2.out.cell (i:=j*11+9) (by omega);have c10:=A2.out.cell (i:=j*11+10) (by omega);have cf:=A2.out.free;have cl:=A2.out.lt;have A3:Hid (Arr (wr.setCells b (j*11) [.int .i64 kj,.int .i64 (kj+1),.int .i64 (kj+1+1),.int .i64 (kj+1+1+1),.int .i64 (kj+1+1+1+1),.int .i64 (kj+1+1+1+1+1),.int .i64 (kj+1+1+1+1+1+1),.int .i64 (kj+1+1+1+1+1+1+1),.int .i64 (kj+1+1+1+1+1+1+1+1),.int .i64 (kj+1+1+1+1+1+1+1+1+1),.int .i64 (kj+1+1+1+1+1+1+1+1+1+1)]) b (n*11) (upTo (markF k) f ((j+1)*11))):=(by
    rw[show(j+1)*11=j*11+11 by omega];exact A2.out.fill (vs:=[.int .i64 kj,.int .i64 (kj+1),.int .i64 (kj+1+1),.int .i64 (kj+1+1+1),.int .i64 (kj+1+1+1+1),.int .i64 (kj+1+1+1+1+1),.int .i64 (kj+1+1+1+1+1+1),.int .i64 (kj+1+1+1+1+1+1+1),.int .i64 (kj+1+1+1+1+1+1+1+1),.int .i64 (kj+1+1+1+1+1+1+1+1+1),.int .i64 (kj+1+1+1+1+1+1+1+1+1+1)]) (by simp;omega) (fun c hc=>by
     have hc':c<11:=by simpa using hc
     match c,hc' with
     |0,_=>exact congrArg (Value.int .i64) (by have:=HKJ.out;omega)
     |1,_=>exact congrArg (Value.int .i64) (by have:=HKJ.out;omega)
     |2,_=>exact congrArg (Value.int .i64) (by have:=HKJ.out;omega)
     |3,_=>exact congrArg (Value.int .i64) (by have:=HKJ.out;omega)
     |4,_=>exact congrArg (Value.int .i64) (by have:=HKJ.out;omega)
     |5,_=>exact congrArg (Value.int .i64) (by have:=HKJ.out;omega)
     |6,_=>exact congrArg (Value.int .i64) (by have:=HKJ.out;omega)
     |7,_=>exact congrArg (Value.int .i64) (by have:=HKJ.out;omega)
     |8,_=>exact congrArg (Value.int .i64) (by have:=HKJ.out;omega)
     |9,_=>exact congrArg (Value.int .i64) (by have:=HKJ.out;omega)
     |10,_=>exact congrArg (Value.int .i64) (by have:=HKJ.out;omega)):Arr (wr.setCells b (j*11) [.int .i64 kj,.int .i64 (kj+1),.int .i64 (kj+1+1),.int .i64 (kj+1+1+1),.int .i64 (kj+1+1+1+1),.int .i64 (kj+1+1+1+1+1),.int .i64 (kj+1+1+1+1+1+1),.int .i64 (kj+1+1+1+1+1+1+1),.int .i64 (kj+1+1+1+1+1+1+1+1),.int .i64 (kj+1+1+1+1+1+1+1+1+1),.int .i64 (kj+1+1+1+1+1+1+1+1+1+1)]) b (n*11) (upTo (markF k) f ((j+1)*11)))
   have F3:Hid (Ft b w (wr.setCells b (j*11) [.int .i64 kj,.int .i64 (kj+1),.int .i64 (kj+1+1),.int .i64 (kj+1+1+1),.int .i64 (kj+1+1+1+1),.int .i64 (kj+1+1+1+1+1),.int .i64 (kj+1+1+1+1+1+1),.int .i64 (kj+1+1+1+1+1+1+1),.int .i64 (kj+1+1+1+1+1+1+1+1),.int .i64 (kj+1+1+1+1+1+1+1+1+1),.int .i64 (kj+1+1+1+1+1+1+1+1+1+1)])):=((((((((((F2.out.set _ _).set _ _).set _ _).set _ _).set _ _).set _ _).set _ _).set _ _).set _ _).set _ _).set _ _;go_wp2;go_roundw
   case rel=>exact⟨j+1,by omega,congrArg (Value.int .i64) (by have:=HKJ.out;omega),by go_num,F3.out,A3.out⟩
   case measure=>simp[intOf];omega
  ·obtain rfl:j=n:=by omega
   have hlt':¬(j:Int)<(j:Int):=by omega
   go_wp2;go_ret;exact⟨ret_int HKJ.out.symm,F2.out,A2.out.filled⟩
structure Fz(lo hi:Nat)(w w':World):Prop where
 os:w'.os=w.os
 tape:w'.tape=w.tape
 output:w'.output=w.output
 size:w.heap.size<=w'.heap.size
 block:∀k,k<w.heap.size->(k<lo∨hi<=k)->w'.heap[k]?=w.heap[k]?
theorem Fz.refl(lo hi:Nat)(w:World):Fz lo hi w w:=⟨rfl,rfl,rfl,Nat.le_refl _,fun _ _ _=>rfl⟩
theorem Fz.next{lo hi b:Nat}{w u v:World}(h:Fz lo hi w u)(g:Ft b u v)(hl:lo<=b)(hh:b<hi):Fz lo hi w v:=
 ⟨g.os.trans h.os,g.tape.trans h.tape,g.output.trans h.output,Nat.le_trans h.size g.size,fun k hk hn=>(g.block k (Nat.lt_of_lt_of_le hk h.size) (by omega)).trans (h.block k hk hn)⟩
theorem Fz.below{lo hi:Nat}{w u:World}(h:Fz lo hi w u)(hl:lo<=w.heap.size):Below lo w u:=⟨h.os,h.tape,h.output,h.size,fun k hk=>h.block k (by omega) (.inl hk)⟩
theorem markProcS_any(bp np cap lo hi:Nat)(Pv:Nat->PV)(blk:Nat->Nat)(k:Int)(w:World)(ln:np<=1048576)(lb:∀i,i<np->(Pv i).n<=1048576)(k0:0<=k)(k1:k<=10000000)(h:PCp w bp np Pv blk)(ho:Pord bp np blk)(hlo:lo<=bp)(hhi:∀i,i<np->blk i<hi):
 Calls Tryz.prog 36 #[.slice (some ⟨bp,0,none⟩) np cap,.int .i64 k] w fun e w'=>∃r:Int,e=.returned (.int .i64 r)/\0<=r/\Fz lo hi w w':=by
 have H:Hid (PCp w bp np Pv blk):=h;have HO:Hid (Pord bp np blk):=ho;have LB:Hid (∀i,i<np->(Pv i).n<=1048576):=lb;have HH:Hid (∀i,i<np->blk i<hi):=hhi;have lbp:=h.r.lt;clear h ho lb hhi;go_enter Tryz.func36,Tryz.ntmps36;go_wp2;go_loopw [1,5](fun kv iv wr=>∃(j:Nat)(r:Int),j<=np/\kv=.int .i64 r/\0<=r/\r<=10000000+11534336*(j:Int)/\iv=.int .i64 (j:Int)/\Fz lo hi w wr/\(wr.cell? ⟨bp,0,none⟩=w.cell? ⟨bp,0,none⟩/\∀i,wr.cell? ⟨bp,i,none⟩=w.cell? ⟨bp,i,none⟩)/\∀i,j<=i->i<np->Arr wr (blk i) ((Pv i).n*11) (stF (Pv i).L))(fun _ iv _=>np-(intOf iv).toNat)
 case atStart=>exact⟨0,k,Nat.zero_le _,rfl,k0,by omega,rfl,Fz.refl _ _ _,⟨rfl,fun _=>rfl⟩,fun i _ hi=>H.out.b i hi⟩
 case round=>
  obtain⟨j,r,hj,rfl,r0,r1,rfl,hf,hcl,har⟩:=hrel;have F2:Hid (Fz lo hi w wr):=hf;have CL:Hid (∀i,wr.cell? ⟨bp,i,none⟩=w.cell? ⟨bp,i,none⟩):=hcl.2;have AR:Hid (∀i,j<=i->i<np->Arr wr (blk i) ((Pv i).n*11) (stF (Pv i).L)):=har;have lw:=hf.size;clear hf hcl har;by_cases hlt:j<np
  ·have hlt':(j:Int)<(np:Int):=by omega
   have g0:wr.cell? ⟨bp,j,none⟩=some (.slice (some ⟨blk j,0,none⟩) (Pv j).n (Pv j).n):=(CL.out j).trans (H.out.r.cell hlt);have lnj:=LB.out j hlt;go_wp2_with fail;refine(markStmtS_at (blk j) (Pv j).n (Pv j).n _ r wr lnj r0 (by omega) (AR.out j (Nat.le_refl _) hlt)).mono ?_;rintro e w2⟨rfl,hf2,_⟩;have hb:=HO.out.1 j hlt;have F3:Hid (Fz lo hi w w2):=F2.out.next hf2 (by omega) (HH.out j hlt);have CL3:Hid (∀i,w2.cell? ⟨bp,i,none⟩=w.cell? ⟨bp,i,none⟩):=fun i=>(hf2.cell (by omega) (by omega)).trans (CL.out i)
   have AR3:Hid (∀i,j+1<=i->i<np->Arr w2 (blk i) ((Pv i).n*11) (stF (Pv i).L)):=fun i h1 h2=>hf2.arr (AR.out i (by omega) h2) (by have:=HO.out.2 j i (by omega) h2;omega)
   obtain⟨r2,hr2⟩:∃y:Int,r+11*((Pv j).n:Int)=y:=⟨_,rfl⟩
   rw[hr2];have q0:0<=r2:=by omega
   have q1:r2<=10000000+11534336*((j:Int)+1):=by omega
   clear hf2 g0 hr2;go_wp2;go_roundw
   case rel=>exact⟨j+1,r2,by omega,rfl,q0,by omega,by go_num,F3.out,⟨CL3.out 0,CL3.out⟩,AR3.out⟩
   case measure=>simp[intOf];omega
  ·have hlt':¬(j:Int)<(np:Int):=by omega
   go_wp2;go_ret;exact⟨r,rfl,r0,F2.out⟩
theorem sig_apart{w:World}{bH nH bR nR:Nat}{S:Nat->HS}{V:Nat->VV}(h:SigCp w bH nH S bR nR V)(n1:nH≠0)(n2:nR≠0):bR≠bH:=by
 intro e;have e1:=h.h.cell (i:=2) (by omega);have e2:=h.r.cell (i:=2) (by omega);rw[e,e1]at e2;simp[hsF,vF,hsC,vC]at e2
theorem markSig_any(bH cH nH:Nat)(S:Nat->HS)(bR cR nR:Nat)(V:Nat->VV)(k:Int)(w:World)(lH:nH<=1048576)(lR:nR<=1048576)(k0:0<=k)(k1:k<=1048576)(h:SigCp w bH nH S bR nR V):
 Calls Tryz.prog 35 #[.agg #[.slice (some ⟨bH,0,none⟩) nH cH,.slice (some ⟨bR,0,none⟩) nR cR],.int .i64 k] w fun e w'=>e=.returned (.int .i64 (k+3*nH+6*nR))/\Fv (fun q=>q=bH∨q=bR) w w':=by
 have H:Hid (SigCp w bH nH S bR nR V):=h;clear h;go_enter Tryz.func35,Tryz.ntmps35;go_wp2_with fail;have b0:Below w.heap.size w (w.alloc (.cells #[.slice (some ⟨bH,0,none⟩) nH cH,.slice (some ⟨bR,0,none⟩) nR cR] 35)):=(Below.refl _ _).alloc (Nat.le_refl _) _;have e0:=Cl.new (w:=w) (vs:=#[.slice (some ⟨bH,0,none⟩) nH cH,.slice (some ⟨bR,0,none⟩) nR cR]) (t:=35);refine(markHS_at bH nH cH _ k _ lH k0 (by omega) (H.out.h.below b0 H.out.h.lt)).mono ?_;rintro e w1⟨rfl,hf⟩;have hl:=H.out.h.lt;have hl2:=H.out.r.lt;have c1:=hf.cl e0 (fun q=>by have:=q.2;omega);have HF1:Hid (Fv (fun q=>nH≠0/\q=bH) w w1):=(Fv.of_below b0).trans hf;have a1:=c1.2 0 (by simp);have a2:=c1.2 1 (by simp);simp only[List.getD_eq_getElem?_getD,List.getElem?_cons_zero,List.getElem?_cons_succ,Option.getD_some]at a1 a2;have az:=c1.1;clear hf e0 b0 c1;go_wp2_with fail;by_cases h0:nR=0
 ·subst h0
  refine(markVals_nil _ cR (k+3*nH) _).mono ?_;rintro e w2⟨rfl,hw⟩;rw[hw];clear hw;go_wp2;go_ret;exact⟨by simp,HF1.out.mono (fun q hq=>.inl hq.2)⟩
 ·have hA:Arr w1 bR (nR*6) (vF V):=HF1.out.arr H.out.r (fun q=>sig_apart H.out q.1 h0 q.2)
  refine(markVals_at bR nR cR _ (k+3*nH) _ lR (by omega) (by omega) hA).mono ?_;rintro e w2⟨rfl,hf2,_⟩;have HF2:Hid (Fv (fun q=>q=bH∨q=bR) w w2):=(HF1.out.mono (fun q hq=>.inl hq.2)).trans (hf2.mono (fun q hq=>.inr hq.2));clear hf2 hA a1 a2 az;go_wp2;go_ret;exact⟨rfl,HF2.out⟩
theorem eqByteS_by{aog:Option Addr}{cg B:Nat}{vs:Value}{t:List UInt8}(w:World)(hn:(t.length:Int)<=1099511627776)(h:WrR w aog t.length (numF .u8 (bF t)))(h':ByA w B vs t):
 Calls Tryz.prog 8 #[.slice aog t.length cg,vs] w fun e w'=>e=.returned (.bool true)/\Below w.heap.size w w':=by
 obtain⟨g,cap,rfl,_,hl,hc,_⟩:=h';by_cases h0:t.length=0
 ·rw[h0];exact eqByteS_nil _ _ _ _ _
 ·rcases h with h|⟨b,rfl,h⟩
  ·exact absurd h h0
  ·refine eqByteS_same b 0 t.length cg g 0 cap (bF t) w hn h.at ⟨hl,fun i hi=>by rw[Nat.zero_add,hc i hi];rfl⟩
structure SrcCp(w:World)(bH nH:Nat)(S:Nat->HS)(bR nR:Nat)(V:Nat->VV)(bp np:Nat)(Pv:Nat->PV)(blk:Nat->Nat):Prop where
 s:SigCp w bH nH S bR nR V
 p:PCp w bp np Pv blk
theorem SrcCp.below{w w':World}{bH nH:Nat}{S:Nat->HS}{bR nR:Nat}{V:Nat->VV}{bp np:Nat}{Pv:Nat->PV}{blk:Nat->Nat}(h:SrcCp w bH nH S bR nR V bp np Pv blk)(hb:Below w.heap.size w w'):SrcCp w' bH nH S bR nR V bp np Pv blk:=⟨h.s.below hb,h.p.below hb⟩
theorem eqSource_same(d:Int)(bH cH nH:Nat)(S:Nat->HS)(bR cR nR:Nat)(V:Nat->VV)(bp cp np:Nat)(Pv:Nat->PV)(blk:Nat->Nat)(bH' cH' bR' cR' bp' cp':Nat)(blk':Nat->Nat)(w:World)(lH:nH<=1048576)(lR:nR<=1048576)(ln:np<=1048576)(lb:∀i,i<np->(Pv i).n<=1048576)(h1:SrcCp w bH nH S bR nR V bp np Pv blk)(h2:SrcCp w bH' nH S bR' nR V bp' np Pv blk'):
 Calls Tryz.prog 9 #[.agg #[.int .i64 d,.slice (some ⟨bH,0,none⟩) nH cH,.slice (some ⟨bR,0,none⟩) nR cR,.slice (some ⟨bp,0,none⟩) np cp],.agg #[.int .i64 d,.slice (some ⟨bH',0,none⟩) nH cH',.slice (some ⟨bR',0,none⟩) nR cR',.slice (some ⟨bp',0,none⟩) np cp']] w fun e w'=>e=.returned (.bool true)/\Below w.heap.size w w':=by
 have H1:Hid (SrcCp w bH nH S bR nR V bp np Pv blk):=h1;have H2:Hid (SrcCp w bH' nH S bR' nR V bp' np Pv blk'):=h2;have LB:Hid (∀i,i<np->(Pv i).n<=1048576):=lb;clear h1 h2 lb;go_enter Tryz.func9,Tryz.ntmps9;go_upto_region 1 with fail;obtain⟨u,hu,hbu,hca,hcb⟩:∃x,(w.alloc (.cells #[.int .i64 d,.slice (some ⟨bH,0,none⟩) nH cH,.slice (some ⟨bR,0,none⟩) nR cR,.slice (some ⟨bp,0,none⟩) np cp] 38)).alloc (.cells #[.int .i64 d,.slice (some ⟨bH',0,none⟩) nH cH',.slice (some ⟨bR',0,none⟩) nR cR',.slice (some ⟨bp',0,none⟩) np cp'] 38)=x/\Below w.heap.size w x/\Cl x w.heap.size [.int .i64 d,.slice (some ⟨bH,0,none⟩) nH cH,.slice (some ⟨bR,0,none⟩) nR cR,.slice (some ⟨bp,0,none⟩) np cp]/\Cl x (w.heap.size+1) [.int .i64 d,.slice (some ⟨bH',0,none⟩) nH cH',.slice (some ⟨bR',0,none⟩) nR cR',.slice (some ⟨bp',0,none⟩) np cp']:=
  ⟨_,rfl,((Below.refl _ _).alloc (Nat.le_refl _) _).alloc (by simp) _,Cl.new.below ((Below.refl _ _).alloc (Nat.le_refl _) _),by
    have h:=Cl.new (w:=w.alloc (.cells #[.int .i64 d,.slice (some ⟨bH,0,none⟩) nH cH,.slice (some ⟨bR,0,none⟩) nR cR,.slice (some ⟨bp,0,none⟩) np cp] 38)) (vs:=#[.int .i64 d,.slice (some ⟨bH',0,none⟩) nH cH',.slice (some ⟨bR',0,none⟩) nR cR',.slice (some ⟨bp',0,none⟩) np cp']) (t:=38);simpa using h⟩
 rw[hu];obtain⟨xa,hxa⟩:∃x,w.heap.size=x:=⟨_,rfl⟩
 rw[hxa]at hca hcb⊢;have CA:Hid (Cl u xa [.int .i64 d,.slice (some ⟨bH,0,none⟩) nH cH,.slice (some ⟨bR,0,none⟩) nR cR,.slice (some ⟨bp,0,none⟩) np cp]):=hca;have CB:Hid (Cl u (xa+1) [.int .i64 d,.slice (some ⟨bH',0,none⟩) nH cH',.slice (some ⟨bR',0,none⟩) nR cR',.slice (some ⟨bp',0,none⟩) np cp']):=hcb;have BU:Hid (Below w.heap.size w u):=hbu;have a0:u.cell? ⟨xa,0,none⟩=some (.int .i64 d):=hca.2 0 (by simp);have b0:u.cell? ⟨xa+1,0,none⟩=some (.int .i64 d):=hcb.2 0 (by simp);have a1:u.cell? ⟨xa,1,none⟩=some (.slice (some ⟨bH,0,none⟩) nH cH):=hca.2 1 (by simp);have b1:u.cell? ⟨xa+1,1,none⟩=some (.slice (some ⟨bH',0,none⟩) nH cH'):=hcb.2 1 (by simp);have a2:u.cell? ⟨xa,2,none⟩=some (.slice (some ⟨bR,0,none⟩) nR cR):=hca.2 2 (by simp);have b2:u.cell? ⟨xa+1,2,none⟩=some (.slice (some ⟨bR',0,none⟩) nR cR'):=hcb.2 2 (by simp);clear hu hbu hca hcb hxa;go_wp2_with fail;refine(eqSig_same bH cH nH S bR cR nR V bH' cH' bR' cR' u lH lR (H1.out.below BU.out).s (H2.out.below BU.out).s).mono ?_;rintro e u2⟨rfl,hb2⟩;have B2:Hid (Below w.heap.size w u2):=BU.out.trans (hb2.mono BU.out.size);have a3:u2.cell? ⟨xa,3,none⟩=some (.slice (some ⟨bp,0,none⟩) np cp):=(CA.out.below hb2).2 3 (by simp);have b3:u2.cell? ⟨xa+1,3,none⟩=some (.slice (some ⟨bp',0,none⟩) np cp'):=(CB.out.below hb2).2 3 (by simp);clear hb2 a0 a1 a2 b0 b1 b2;go_wp2_with fail;refine(eqProcS_same np cp bp bp' cp' Pv blk blk' u2 ln LB.out (H1.out.below B2.out).p (H2.out.below B2.out).p).mono ?_;rintro e u3⟨rfl,hb3⟩;have B3:Hid (Below w.heap.size w u3):=B2.out.trans (hb3.mono B2.out.size);clear hb3 a3 b3;go_wp2;go_ret;exact⟨rfl,B3.out⟩
structure TSt(w:World)(x:Nat)(a:List Value)(o:Nat->Value)(u:World):Prop where
 b:Below w.heap.size w u
 A:Cl u x a
 R:Arr u (x+1) 4 (fun i=>if i=0 then .int .i64 0 else .slice none 0 0)
 O:Arr u (x+1+1) 4 o
theorem TSt.below{w:World}{x:Nat}{a:List Value}{o:Nat->Value}{u v:World}(h:TSt w x a o u)(hb:Below u.heap.size u v)(hw:w.heap.size<=u.heap.size):TSt w x a o v:=
 ⟨h.b.trans (hb.mono hw),h.A.below hb,h.R.below hb h.R.lt,h.O.below hb h.O.lt⟩
theorem Cl.set{u:World}{b:Nat}{vs:List Value}(h:Cl u b vs){p:Addr}(hp:p.block≠b)(v:Value):Cl (u.setCell p v) b vs:=
 ⟨by simpa using h.1,fun i hi=>(World.cell?_of_block (a:=⟨b,i,none⟩) (Below.heap_setCell u p v b (fun e=>hp e.symm))).trans (h.2 i hi)⟩
theorem TSt.set{w:World}{x:Nat}{a:List Value}{o:Nat->Value}{u:World}(h:TSt w x a o u)(hx:w.heap.size<=x)(j:Nat)(hj:j<4)(v:Value):TSt w x a (fun i=>if i=j then v else o i) (u.setCell ⟨x+1+1,j,none⟩ v):=
 ⟨h.b.setCell (by show w.heap.size<=x+1+1;omega) v,h.A.set (by show x+1+1≠x;omega) v,h.R.other (by show x+1+1≠x+1;omega) v,h.O.put hj v⟩
theorem tst_new(w:World)(d:Int)(vH vR vP:Value)(t1:TypeId):TSt w w.heap.size [.int .i64 d,vH,vR,vP] (fun i=>if i=0 then .int .i64 0 else .slice none 0 0) (((w.alloc (.cells #[.int .i64 d,vH,vR,vP] t1)).alloc (.cells #[.int .i64 0,.slice none 0 0,.slice none 0 0,.slice none 0 0] 38)).alloc (.cells #[.int .i64 0,.slice none 0 0,.slice none 0 0,.slice none 0 0] 38)):=by
 have hz:∀(v:World),Arr (v.alloc (.cells #[.int .i64 0,.slice none 0 0,.slice none 0 0,.slice none 0 0] 38)) v.heap.size 4 (fun i=>if i=0 then .int .i64 0 else .slice none 0 0):=fun v=>by
  refine⟨by simp,fun i=>by simp[go_sem],fun i hi=>?_⟩;rw[heap_cell (heap_alloc_newB v _) i];obtain rfl|rfl|rfl|rfl:i=0∨i=1∨i=2∨i=3:=by omega
  all_goals rfl
 have hb:=fun(v:World)(o:Obj)=>(Below.refl v.heap.size v).alloc (Nat.le_refl _) o
 have e1:(w.alloc (.cells #[.int .i64 d,vH,vR,vP] t1)).heap.size=w.heap.size+1:=by simp
 refine⟨(((Below.refl _ _).alloc (Nat.le_refl _) _).alloc (by simp) _).alloc (by simp;omega) _,(Cl.new.below (hb _ _)).below (hb _ _),?_,?_⟩
 ·have h:=hz (w.alloc (.cells #[.int .i64 d,vH,vR,vP] t1))
  rw[e1]at h;exact h.below (hb _ _) h.lt
 ·have h:=hz ((w.alloc (.cells #[.int .i64 d,vH,vR,vP] t1)).alloc (.cells #[.int .i64 0,.slice none 0 0,.slice none 0 0,.slice none 0 0] 38))
  simp only[World.size_alloc]at h;exact h
theorem toSource_in(d:Int)(aoH:Option Addr)(nH cH:Nat)(S:Nat->HS)(aoR:Option Addr)(nR cR:Nat)(V:Nat->VV)(aoP:Option Addr)(np cP:Nat)(Q:Nat->PI)(w:World)(lH:nH<=1048576)(lR:nR<=1048576)(ln:np<=1048576)(hs:SigIn w aoH nH S aoR nR V)(hp:InRow w aoP np (piF Q))(hq:∀i,i<np->(Q i).len<=1048576/\InRow w (Q i).ao ((Q i).len*11) (stF (Q i).L)):
 Calls Tryz.prog 6 #[.agg #[.int .i64 d,.slice aoH nH cH,.slice aoR nR cR,.slice aoP np cP]] w fun e w'=>∃(bH bR bp:Nat)(blk:Nat->Nat),e=.returned (.agg #[.int .i64 d,.slice (some ⟨bH,0,none⟩) nH nH,.slice (some ⟨bR,0,none⟩) nR nR,.slice (some ⟨bp,0,none⟩) np np])/\Below w.heap.size w w'/\SrcCp w' bH nH S bR nR V bp np (fun i=>(Q i).pv) blk/\Pord bp np blk/\w.heap.size<=bH/\w.heap.size<=bR/\bH<bp/\bR<bp:=by
 have HS:Hid (SigIn w aoH nH S aoR nR V):=hs;have HP:Hid (InRow w aoP np (piF Q)):=hp;have HQ:Hid (∀i,i<np->(Q i).len<=1048576/\InRow w (Q i).ao ((Q i).len*11) (stF (Q i).L)):=hq;clear hs hp hq;go_enter Tryz.func6,Tryz.ntmps6;go_upto_region 2 with fail;obtain⟨u0,hu0,p0⟩:∃y,(((w.alloc (.cells #[.int .i64 d,.slice aoH nH cH,.slice aoR nR cR,.slice aoP np cP] 28)).alloc (.cells #[.int .i64 0,.slice none 0 0,.slice none 0 0,.slice none 0 0] 38)).alloc (.cells #[.int .i64 0,.slice none 0 0,.slice none 0 0,.slice none 0 0] 38))=y/\TSt w w.heap.size [.int .i64 d,.slice aoH nH cH,.slice aoR nR cR,.slice aoP np cP] (fun i=>if i=0 then .int .i64 0 else .slice none 0 0) y:=⟨_,rfl,tst_new w d _ _ _ _⟩
 rw[hu0];obtain⟨x,hx⟩:∃y,w.heap.size=y:=⟨_,rfl⟩
 rw[hx]at p0⊢;have HX:Hid (w.heap.size=x):=hx;have P0:Hid (TSt w x [.int .i64 d,.slice aoH nH cH,.slice aoR nR cR,.slice aoP np cP] (fun i=>if i=0 then .int .i64 0 else .slice none 0 0) u0):=p0;have a0:u0.cell? ⟨x,0,none⟩=some (.int .i64 d):=p0.A.2 0 (by simp);have o0:u0.cell? ⟨x+1+1,0,none⟩=some (.int .i64 0):=p0.O.cell (i:=0) (by omega);have f0:=p0.O.free;clear hu0 p0 hx;go_upto_region 3 with fail;obtain⟨u1,hu1,p1⟩:∃y,u0.setCell ⟨x+1+1,0,none⟩ (.int .i64 d)=y/\TSt w x [.int .i64 d,.slice aoH nH cH,.slice aoR nR cR,.slice aoP np cP] (fun i=>if i=0 then .int .i64 d else if i=0 then .int .i64 0 else .slice none 0 0) y:=⟨_,rfl,P0.out.set (Nat.le_of_eq HX.out) 0 (by omega) _⟩
 rw[hu1];have P1:Hid (TSt w x [.int .i64 d,.slice aoH nH cH,.slice aoR nR cR,.slice aoP np cP] (fun i=>if i=0 then .int .i64 d else if i=0 then .int .i64 0 else .slice none 0 0) u1):=p1;have a1:u1.cell? ⟨x,1,none⟩=some (.slice aoH nH cH):=p1.A.2 1 (by simp);have a2:u1.cell? ⟨x,2,none⟩=some (.slice aoR nR cR):=p1.A.2 2 (by simp);clear hu1 p1 a0 o0 f0 P0;go_wp2_with fail;refine(toSig_in aoH nH cH S aoR nR cR V u1 lH lR (HS.out.below P1.out.b (Nat.le_refl _))).mono ?_;rintro e u2⟨bH,bR,zH,zR,rfl,hb2,sg⟩;have wz:w.heap.size<=u1.heap.size:=P1.out.b.size;have xz:x+1+1<u1.heap.size:=P1.out.O.lt;have P2:Hid (TSt w x [.int .i64 d,.slice aoH nH cH,.slice aoR nR cR,.slice aoP np cP] (fun i=>if i=0 then .int .i64 d else if i=0 then .int .i64 0 else .slice none 0 0) u2):=P1.out.below hb2 wz;have SG:Hid (SigCp u2 bH nH S bR nR V):=sg;have o1:u2.cell? ⟨x+1+1,1,none⟩=some (.slice none 0 0):=P2.out.O.cell (i:=1) (by omega);have o2:u2.cell? ⟨x+1+1,2,none⟩=some (.slice none 0 0):=P2.out.O.cell (i:=2) (by omega);have f0:=P2.out.O.free;clear hb2 sg a1 a2 P1;go_upto_region 4 with fail;obtain⟨u3,hu3,p3,sg3⟩:∃y,(u2.setCell ⟨x+1+1,1,none⟩ (.slice (some ⟨bH,0,none⟩) nH nH)).setCell ⟨x+1+1,2,none⟩ (.slice (some ⟨bR,0,none⟩) nR nR)=y/\TSt w x [.int .i64 d,.slice aoH nH cH,.slice aoR nR cR,.slice aoP np cP] (fun i=>if i=2 then .slice (some ⟨bR,0,none⟩) nR nR else if i=1 then .slice (some ⟨bH,0,none⟩) nH nH else if i=0 then .int .i64 d else if i=0 then .int .i64 0 else .slice none 0 0) y/\SigCp y bH nH S bR nR V:=
  ⟨_,rfl,(P2.out.set (Nat.le_of_eq HX.out) 1 (by omega) _).set (Nat.le_of_eq HX.out) 2 (by omega) _,(SG.out.h.other (a:=⟨x+1+1,1,none⟩) (by show x+1+1≠bH;omega) _).other (a:=⟨x+1+1,2,none⟩) (by show x+1+1≠bH;omega) _,(SG.out.r.other (a:=⟨x+1+1,1,none⟩) (by show x+1+1≠bR;omega) _).other (a:=⟨x+1+1,2,none⟩) (by show x+1+1≠bR;omega) _⟩
 rw[hu3];have P3:Hid (TSt w x [.int .i64 d,.slice aoH nH cH,.slice aoR nR cR,.slice aoP np cP] (fun i=>if i=2 then .slice (some ⟨bR,0,none⟩) nR nR else if i=1 then .slice (some ⟨bH,0,none⟩) nH nH else if i=0 then .int .i64 d else if i=0 then .int .i64 0 else .slice none 0 0) u3):=p3;have SG3:Hid (SigCp u3 bH nH S bR nR V):=sg3;have a3:u3.cell? ⟨x,3,none⟩=some (.slice aoP np cP):=p3.A.2 3 (by simp);clear hu3 p3 sg3 o1 o2 f0 P2 SG;go_wp2_with fail;refine(toProcS_in aoP np cP Q u3 ln (HP.out.below P3.out.b (Nat.le_refl _)) (fun i hi=>⟨(HQ.out i hi).1,(HQ.out i hi).2.below P3.out.b (Nat.le_refl _)⟩)).mono ?_;rintro e u4⟨rfl,hb4,blk,pc,po⟩;have wz3:w.heap.size<=u3.heap.size:=P3.out.b.size;have xz3:x+1+1<u3.heap.size:=P3.out.O.lt;have lbH:bH<u3.heap.size:=SG3.out.h.lt;have lbR:bR<u3.heap.size:=SG3.out.r.lt;obtain⟨bp,hbp⟩:∃y,u3.heap.size=y:=⟨_,rfl⟩
 have P4:Hid (TSt w x [.int .i64 d,.slice aoH nH cH,.slice aoR nR cR,.slice aoP np cP] (fun i=>if i=2 then .slice (some ⟨bR,0,none⟩) nR nR else if i=1 then .slice (some ⟨bH,0,none⟩) nH nH else if i=0 then .int .i64 d else if i=0 then .int .i64 0 else .slice none 0 0) u4):=P3.out.below hb4 wz3;have SG4:Hid (SigCp u4 bH nH S bR nR V):=SG3.out.below hb4;rw[hbp]at pc po xz3 lbH lbR⊢;have PC4:Hid (PCp u4 bp np (fun i=>(Q i).pv) blk):=pc;have PO:Hid (Pord bp np blk):=po;have o3:u4.cell? ⟨x+1+1,3,none⟩=some (.slice none 0 0):=P4.out.O.cell (i:=3) (by omega);have f0:=P4.out.O.free;clear hb4 pc po a3 P3 SG3 hbp;go_upto_region 5 with fail;obtain⟨u5,hu5,p5,sg5,pc5⟩:∃y,u4.setCell ⟨x+1+1,3,none⟩ (.slice (some ⟨bp,0,none⟩) np np)=y/\TSt w x [.int .i64 d,.slice aoH nH cH,.slice aoR nR cR,.slice aoP np cP] (fun i=>if i=3 then .slice (some ⟨bp,0,none⟩) np np else if i=2 then .slice (some ⟨bR,0,none⟩) nR nR else if i=1 then .slice (some ⟨bH,0,none⟩) nH nH else if i=0 then .int .i64 d else if i=0 then .int .i64 0 else .slice none 0 0) y/\SigCp y bH nH S bR nR V/\PCp y bp np (fun i=>(Q i).pv) blk:=
  ⟨_,rfl,P4.out.set (Nat.le_of_eq HX.out) 3 (by omega) _,⟨SG4.out.h.other (a:=⟨x+1+1,3,none⟩) (by show x+1+1≠bH;omega) _,SG4.out.r.other (a:=⟨x+1+1,3,none⟩) (by show x+1+1≠bR;omega) _⟩,⟨PC4.out.r.other (a:=⟨x+1+1,3,none⟩) (by show x+1+1≠bp;omega) _,fun i hi=>(PC4.out.b i hi).other (a:=⟨x+1+1,3,none⟩) (by have:=PO.out.1 i hi;show x+1+1≠blk i;omega) _⟩⟩
 rw[hu5];have P5:Hid _:=p5.b;have SG5:Hid (SigCp u5 bH nH S bR nR V):=sg5;have PC5:Hid (PCp u5 bp np (fun i=>(Q i).pv) blk):=pc5;have o0:u5.cell? ⟨x+1+1,0,none⟩=some (.int .i64 d):=p5.O.cell (i:=0) (by omega);have o1:u5.cell? ⟨x+1+1,1,none⟩=some (.slice (some ⟨bH,0,none⟩) nH nH):=p5.O.cell (i:=1) (by omega);have o2:u5.cell? ⟨x+1+1,2,none⟩=some (.slice (some ⟨bR,0,none⟩) nR nR):=p5.O.cell (i:=2) (by omega);have o4:u5.cell? ⟨x+1+1,3,none⟩=some (.slice (some ⟨bp,0,none⟩) np np):=p5.O.cell (i:=3) (by omega);have z0:u5.cell? ⟨x+1,0,none⟩=some (.int .i64 0):=p5.R.cell (i:=0) (by omega);have z1:u5.cell? ⟨x+1,1,none⟩=some (.slice none 0 0):=p5.R.cell (i:=1) (by omega);have z2:u5.cell? ⟨x+1,2,none⟩=some (.slice none 0 0):=p5.R.cell (i:=2) (by omega);have z3:u5.cell? ⟨x+1,3,none⟩=some (.slice none 0 0):=p5.R.cell (i:=3) (by omega);have fz:=p5.R.free;clear hu5 p5 sg5 pc5 o3 f0 P4 SG4 PC4;go_wp2;refine bodyPost_ret (v:=.agg #[.int .i64 d,.slice (some ⟨bH,0,none⟩) nH nH,.slice (some ⟨bR,0,none⟩) nR nR,.slice (some ⟨bp,0,none⟩) np np]) (by simp[results,Tryz.results6,go_sem,z0,z1,z2,z3]) rfl ⟨bH,bR,bp,blk,rfl,?_,⟨⟨?_,?_⟩,?_,?_⟩,PO.out,by have:=HX.out;omega,by have:=HX.out;omega,lbH,lbR⟩
 ·exact(((P5.out.setCell (by have:=HX.out;simp;omega) _).setCell (by have:=HX.out;simp;omega) _).setCell (by have:=HX.out;simp;omega) _).setCell (by have:=HX.out;simp;omega) _
 ·exact(((SG5.out.h.other (by simp;omega) _).other (by simp;omega) _).other (by simp;omega) _).other (by simp;omega) _
 ·exact(((SG5.out.r.other (by simp;omega) _).other (by simp;omega) _).other (by simp;omega) _).other (by simp;omega) _
 ·exact(((PC5.out.r.other (by simp;omega) _).other (by simp;omega) _).other (by simp;omega) _).other (by simp;omega) _
 ·exact fun i hi=>by
   have h9:=PO.out.1 i hi;exact((((PC5.out.b i hi).other (by simp;omega) _).other (by simp;omega) _).other (by simp;omega) _).other (by simp;omega) _
theorem szSource_any(d:Int)(aoH:Option Addr)(nH cH:Nat)(aoR:Option Addr)(nR cR:Nat)(aoP:Option Addr)(np cP:Nat)(Q:Nat->PI)(w:World)(mH:nH<=maxLen)(mR:nR<=maxLen)(mP:np<=maxLen)(hp:InRow w aoP np (piF Q))(hm:∀i,i<np->(Q i).len<=maxLen):
 Calls Tryz.prog 4 #[.agg #[.int .i64 d,.slice aoH nH cH,.slice aoR nR cR,.slice aoP np cP],.int .i64 1048576] w fun e w'=>∃r:Int,e=.returned (.int .i64 r)/\(r= -1∨(0<=r/\nH+nR<=1048576/\np<=1048576/\∀i,i<np->(Q i).len<=1048576))/\Below w.heap.size w w':=by
 have HP:Hid (InRow w aoP np (piF Q)):=hp;have HM:Hid (∀i,i<np->(Q i).len<=maxLen):=hm;clear hp hm;go_enter Tryz.func4,Tryz.ntmps4;go_upto_region 1 with fail;obtain⟨u,hu,hbu,hc⟩:∃y,w.alloc (.cells #[.int .i64 d,.slice aoH nH cH,.slice aoR nR cR,.slice aoP np cP] 28)=y/\Below w.heap.size w y/\Cl y w.heap.size [.int .i64 d,.slice aoH nH cH,.slice aoR nR cR,.slice aoP np cP]:=⟨_,rfl,(Below.refl _ _).alloc (Nat.le_refl _) _,Cl.new⟩
 rw[hu];obtain⟨x,hx⟩:∃y,w.heap.size=y:=⟨_,rfl⟩
 rw[hx]at hc⊢;have BU:Hid (Below w.heap.size w u):=hbu;have C0:Hid (Cl u x [.int .i64 d,.slice aoH nH cH,.slice aoR nR cR,.slice aoP np cP]):=hc;have a1:u.cell? ⟨x,1,none⟩=some (.slice aoH nH cH):=hc.2 1 (by simp);have a2:u.cell? ⟨x,2,none⟩=some (.slice aoR nR cR):=hc.2 2 (by simp);clear hu hbu hc hx;by_cases hs:(nH:Int)+nR<=1048576
 rotate_left
 ·go_wp2_with fail
  refine(szSig_no aoH nH cH aoR nR cR 1048576 u (by omega) (by omega) (by omega) mH mR).mono ?_;rintro e u2⟨rfl,hb2⟩;have B2:Hid (Below w.heap.size w u2):=BU.out.trans (hb2.mono BU.out.size);clear hb2 a1 a2;go_wp2;go_ret;exact⟨_,rfl,.inl rfl,B2.out⟩
 go_wp2_with fail;refine(szSig_ok aoH nH cH aoR nR cR 1048576 u (by omega) hs (by omega)).mono ?_;rintro e u2⟨rfl,hb2⟩;obtain⟨l2,hl2⟩:∃y:Int,(1048576:Int)-nH-nR=y:=⟨_,rfl⟩
 rw[hl2];have l20:0<=l2:=by omega
 have l21:l2<=1048576:=by omega
 have l22:¬l2<0:=by omega
 have B2:Hid (Below w.heap.size w u2):=BU.out.trans (hb2.mono BU.out.size);have a3:u2.cell? ⟨x,3,none⟩=some (.slice aoP np cP):=(C0.out.below hb2).2 3 (by simp);clear hb2 a1 a2 hl2;go_wp2_with fail;refine(szProcS_any aoP np cP Q l2 u2 l20 l21 (by unfold maxLen at mP;exact mP) (HP.out.below B2.out (Nat.le_refl _)) (fun i hi=>by have:=HM.out i hi;unfold maxLen at this;exact this)).mono ?_;rintro e u3⟨r,rfl,hr,hb3⟩;have B3:Hid (Below w.heap.size w u3):=B2.out.trans (hb3.mono B2.out.size);clear hb3 a3;rcases hr with rfl|⟨r0,r1,h2,h3⟩
 ·go_wp2
  go_ret;exact⟨_,rfl,.inl rfl,B3.out⟩
 ·have hr':¬r<0:=by omega
  have H3:Hid (∀i,i<np->(Q i).len<=1048576):=h3;clear h3;go_wp2;go_ret;exact⟨_,rfl,.inr ⟨r0,by omega,h2,H3.out⟩,B3.out⟩
theorem markSource_any(d:Int)(bH cH nH:Nat)(S:Nat->HS)(bR cR nR:Nat)(V:Nat->VV)(bp cp np lo hi:Nat)(Pv:Nat->PV)(blk:Nat->Nat)(w:World)(lS:nH+nR<=1048576)(ln:np<=1048576)(lb:∀i,i<np->(Pv i).n<=1048576)(h:SrcCp w bH nH S bR nR V bp np Pv blk)(ho:Pord bp np blk)(h1:lo<=bH)(h2:lo<=bR)(h3:bH<bp)(h4:bR<bp)(h5:bp<hi)(hhi:∀i,i<np->blk i<hi)(hz:hi<=w.heap.size):
 Calls Tryz.prog 10 #[.agg #[.int .i64 d,.slice (some ⟨bH,0,none⟩) nH cH,.slice (some ⟨bR,0,none⟩) nR cR,.slice (some ⟨bp,0,none⟩) np cp],.int .i64 1] w fun e w'=>∃r:Int,e=.returned (.int .i64 r)/\0<=r/\Fz lo hi w w':=by
 have H:Hid (SrcCp w bH nH S bR nR V bp np Pv blk):=h;have HO:Hid (Pord bp np blk):=ho;have LB:Hid (∀i,i<np->(Pv i).n<=1048576):=lb;have HH:Hid (∀i,i<np->blk i<hi):=hhi;clear h ho lb hhi;go_enter Tryz.func10,Tryz.ntmps10;go_upto_region 1 with fail;obtain⟨u,hu,hbu,hc⟩:∃y,w.alloc (.cells #[.int .i64 d,.slice (some ⟨bH,0,none⟩) nH cH,.slice (some ⟨bR,0,none⟩) nR cR,.slice (some ⟨bp,0,none⟩) np cp] 38)=y/\Below w.heap.size w y/\Cl y w.heap.size [.int .i64 d,.slice (some ⟨bH,0,none⟩) nH cH,.slice (some ⟨bR,0,none⟩) nR cR,.slice (some ⟨bp,0,none⟩) np cp]:=⟨_,rfl,(Below.refl _ _).alloc (Nat.le_refl _) _,Cl.new⟩
 rw[hu];obtain⟨x,hx⟩:∃y,w.heap.size=y:=⟨_,rfl⟩
 have HX:Hid (w.heap.size=x):=hx;rw[hx]at hc⊢;have BU:Hid (Below w.heap.size w u):=hbu;have C0:Hid (Cl u x [.int .i64 d,.slice (some ⟨bH,0,none⟩) nH cH,.slice (some ⟨bR,0,none⟩) nR cR,.slice (some ⟨bp,0,none⟩) np cp]):=hc;have a1:u.cell? ⟨x,1,none⟩=some (.slice (some ⟨bH,0,none⟩) nH cH):=hc.2 1 (by simp);have a2:u.cell? ⟨x,2,none⟩=some (.slice (some ⟨bR,0,none⟩) nR cR):=hc.2 2 (by simp);clear hu hbu hc hx;go_wp2_with fail;refine(markSig_any bH cH nH S bR cR nR V 1 u (by omega) (by omega) (by omega) (by omega) (H.out.below BU.out).s).mono ?_;rintro e u2⟨rfl,hf2⟩;have hz':=HX.out;have a3:u2.cell? ⟨x,3,none⟩=some (.slice (some ⟨bp,0,none⟩) np cp):=(hf2.cl C0.out (by omega)).2 3 (by simp);have F2:Hid (Fz lo hi w u2):=⟨hf2.os.trans BU.out.os,hf2.tape.trans BU.out.tape,hf2.output.trans BU.out.output,Nat.le_trans BU.out.size hf2.size,fun k hk hn=>(hf2.block k (Nat.lt_of_lt_of_le hk BU.out.size) (by omega)).trans (BU.out.block k hk)⟩
 have PC2:Hid (PCp u2 bp np Pv blk):=⟨hf2.arr (H.out.below BU.out).p.r (by omega),fun i hi=>hf2.arr ((H.out.below BU.out).p.b i hi) (by have:=HO.out.1 i hi;omega)⟩
 obtain⟨k2,hk2⟩:∃y:Int,1+3*(nH:Int)+6*(nR:Int)=y:=⟨_,rfl⟩
 rw[hk2];have k20:0<=k2:=by omega
 have k21:k2<=10000000:=by omega
 clear hf2 a1 a2 hk2;go_wp2_with fail;refine(markProcS_any bp np cp lo hi Pv blk k2 u2 ln LB.out k20 k21 PC2.out HO.out (by omega) HH.out).mono ?_;rintro e u3⟨r,rfl,r0,hf3⟩;have F3:Hid (Fz lo hi w u3):=⟨hf3.os.trans F2.out.os,hf3.tape.trans F2.out.tape,hf3.output.trans F2.out.output,Nat.le_trans F2.out.size hf3.size,fun k hk hn=>(hf3.block k (Nat.lt_of_lt_of_le hk F2.out.size) hn).trans (F2.out.block k hk hn)⟩
 clear hf3 a3;go_wp2;go_ret;exact⟨r,rfl,r0,F3.out⟩
end Go.Proofs.YtiphbmhoifggiaaGreatDoor
