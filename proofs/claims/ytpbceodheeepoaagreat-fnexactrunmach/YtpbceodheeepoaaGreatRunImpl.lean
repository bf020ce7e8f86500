import Derived.Test.YtpbceodheeepoaaGreatRunMath
set_option maxHeartbeats 4000000
set_option maxRecDepth 20000
namespace Go.Proofs.YtpbceodheeepoaaGreat
open Go.RowKit
theorem implRun_any(bP len:Nat)(F:Nat->Nat->Int)(bR nR:Nat)(R:Nat->Int)(z c hz hc:Bool)(bH nH:Nat)(Hp:Nat->HeapV)(blk:Nat->Nat)(pc st:Int)(bO nO:Nat)(K V:Nat->Int)(steps:Int)(w:World)
 (hlen:len<=1048576)(hat:Arr w bP (len*6) (insF F))(hs:Small nR nH Hp nO)(hr:InRange R nH Hp)(hm:MachCp w bR nR R bH nH Hp blk bO nO K V):
 Calls Tryz.prog 8 #[.slice (some ⟨bP,0,none⟩) len len,.agg #[.slice (some ⟨bR,0,none⟩) nR nR,.bool z,.bool c,.bool hz,.bool hc,.slice (some ⟨bH,0,none⟩) nH nH,.int .i64 pc,.int .i64 st,.slice (some ⟨bO,0,none⟩) nO nO],.int .i64 steps] w fun e w'=>∃v,e=.returned v/\Below w.heap.size w w'/\Ans w' w.heap.size v (runA len F nR {R:=R,z:=z,c:=c,hz:=hz,hc:=hc,nH:=nH,Hp:=Hp,pc:=pc,st:=st,nO:=nO,K:=K,V:=V} steps):=by
 have HA:Hid (Arr w bP (len*6) (insF F)):=hat;have HS:Hid (Small nR nH Hp nO):=hs;have HR:Hid (InRange R nH Hp):=hr;have HM:Hid (MachCp w bR nR R bH nH Hp blk bO nO K V):=hm;have lA:=hat.lt;clear hat hs hr hm;go_enter Tryz.func8,Tryz.ntmps8;go_upto_region 1 with fail;generalize hw0:(w.alloc (.cells #[.slice (some ⟨bR,0,none⟩) nR nR,.bool z,.bool c,.bool hz,.bool hc,.slice (some ⟨bH,0,none⟩) nH nH,.int .i64 pc,.int .i64 st,.slice (some ⟨bO,0,none⟩) nO nO] 28)).alloc (.cells #[.slice none 0 0,.bool false,.bool false,.bool false,.bool false,.slice none 0 0,.int .i64 0,.int .i64 0,.slice none 0 0] 28)=w0;have b0:Below w.heap.size w w0:=by rw[<-hw0];exact((Below.refl _ _).alloc (Nat.le_refl _) _).alloc (by simp) _
 have z0:w.heap.size+2<=w0.heap.size:=by rw[<-hw0];simp
 have HX0:Hid (w0.ownsRow w.heap.size 28 9 (.slice (some ⟨w.heap.size,0,none⟩) 1 1) 1 [.slice (some ⟨bR,0,none⟩) nR nR,.bool z,.bool c,.bool hz,.bool hc,.slice (some ⟨bH,0,none⟩) nH nH,.int .i64 pc,.int .i64 st,.slice (some ⟨bO,0,none⟩) nO nO]):=by rw[<-hw0];exact(World.ownsRow_lit w #[.slice (some ⟨bR,0,none⟩) nR nR,.bool z,.bool c,.bool hz,.bool hc,.slice (some ⟨bH,0,none⟩) nH nH,.int .i64 pc,.int .i64 st,.slice (some ⟨bO,0,none⟩) nO nO] 1 (Nat.le_refl _) (by unfold maxLen;omega) rfl).alloc _
 have HZ0:Hid (w0.ownsRow w.heap.size 28 9 (.slice (some ⟨w.heap.size+1,0,none⟩) 1 1) 1 [.slice none 0 0,.bool false,.bool false,.bool false,.bool false,.slice none 0 0,.int .i64 0,.int .i64 0,.slice none 0 0]):=by
  rw[<-hw0];have:=World.ownsRow_lit (base:=w.heap.size) (e:=28) (size:=9) (w.alloc (.cells #[.slice (some ⟨bR,0,none⟩) nR nR,.bool z,.bool c,.bool hz,.bool hc,.slice (some ⟨bH,0,none⟩) nH nH,.int .i64 pc,.int .i64 st,.slice (some ⟨bO,0,none⟩) nO nO] 28)) #[.slice none 0 0,.bool false,.bool false,.bool false,.bool false,.slice none 0 0,.int .i64 0,.int .i64 0,.slice none 0 0] 1 (by simp) (by unfold maxLen;omega) rfl;rw[World.size_alloc]at this;exact this
 have HB0:Hid (Below w.heap.size w w0):=b0;have y0:w.heap.size<w0.heap.size:=by omega
 have y1:w.heap.size+1<w0.heap.size:=by omega
 obtain⟨q0,q1,q2,q3,q4,q5,q6,q7,q8⟩:=cells9 HX0.out;clear hw0 b0;by_cases hb1:steps<0
 ·have e1:decide (steps<0)=true:=by simp[hb1]
  obtain⟨s0,s1,s2,s3,s4,s5,s6,s7,s8⟩:=cells9 HZ0.out;have sf:∀i,w0.frozen? ⟨w.heap.size+1,i,none⟩=false:=fun i=>HZ0.out.frozenAt i
  go_wp2;refine bodyPost_ret (v:=.agg #[.slice none 0 0,.bool false,.bool false,.bool false,.bool false,.slice none 0 0,.int .i64 0,.int .i64 0,.slice none 0 0]) (by simp[results,Tryz.results8,go_sem,s0,s1,s2,s3,s4,s5,s6,s7,s8]) rfl ⟨_,rfl,?_,?_⟩
  ·iterate 9 refine Below.setCell ?_ (by simp) _
   exact HB0.out
  ·have e1:runA len F nR {R:=R,z:=z,c:=c,hz:=hz,hc:=hc,nH:=nH,Hp:=Hp,pc:=pc,st:=st,nO:=nO,K:=K,V:=V} steps=none:=by
    unfold runA;rw[if_neg];simp only[Bool.and_eq_true];exact fun h=>by have:=h.2.1;unfold inB at this;simp only[Bool.and_eq_true,decide_eq_true_eq]at this;omega
   rw[e1];rfl
 by_cases hb2:(100000:Int)<steps
 ·have e1:decide (steps<0)=false:=by simp[hb1]
  have e2:decide ((100000:Int)<steps)=true:=by simp[hb2]
  obtain⟨s0,s1,s2,s3,s4,s5,s6,s7,s8⟩:=cells9 HZ0.out;have sf:∀i,w0.frozen? ⟨w.heap.size+1,i,none⟩=false:=fun i=>HZ0.out.frozenAt i
  go_wp2;refine bodyPost_ret (v:=.agg #[.slice none 0 0,.bool false,.bool false,.bool false,.bool false,.slice none 0 0,.int .i64 0,.int .i64 0,.slice none 0 0]) (by simp[results,Tryz.results8,go_sem,s0,s1,s2,s3,s4,s5,s6,s7,s8]) rfl ⟨_,rfl,?_,?_⟩
  ·iterate 9 refine Below.setCell ?_ (by simp) _
   exact HB0.out
  ·have e1:runA len F nR {R:=R,z:=z,c:=c,hz:=hz,hc:=hc,nH:=nH,Hp:=Hp,pc:=pc,st:=st,nO:=nO,K:=K,V:=V} steps=none:=by
    unfold runA;rw[if_neg];simp only[Bool.and_eq_true];exact fun h=>by have:=h.2.1;unfold inB at this;simp only[Bool.and_eq_true,decide_eq_true_eq]at this;omega
   rw[e1];rfl
 by_cases hb3:(100000:Int)<nO
 ·have e1:decide (steps<0)=false:=by simp[hb1]
  have e2:decide ((100000:Int)<steps)=false:=by simp[hb2]
  have e3:decide ((100000:Int)<nO)=true:=by simp[hb3]
  obtain⟨s0,s1,s2,s3,s4,s5,s6,s7,s8⟩:=cells9 HZ0.out;have sf:∀i,w0.frozen? ⟨w.heap.size+1,i,none⟩=false:=fun i=>HZ0.out.frozenAt i
  go_wp2;refine bodyPost_ret (v:=.agg #[.slice none 0 0,.bool false,.bool false,.bool false,.bool false,.slice none 0 0,.int .i64 0,.int .i64 0,.slice none 0 0]) (by simp[results,Tryz.results8,go_sem,s0,s1,s2,s3,s4,s5,s6,s7,s8]) rfl ⟨_,rfl,?_,?_⟩
  ·iterate 9 refine Below.setCell ?_ (by simp) _
   exact HB0.out
  ·have e1:runA len F nR {R:=R,z:=z,c:=c,hz:=hz,hc:=hc,nH:=nH,Hp:=Hp,pc:=pc,st:=st,nO:=nO,K:=K,V:=V} steps=none:=by
    unfold runA;rw[if_neg];simp only[Bool.and_eq_true];exact fun h=>by have:=h.2.2;simp only[decide_eq_true_eq]at this;omega
   rw[e1];rfl
 have e1:decide (steps<0)=false:=by simp[hb1]
 have e2:decide ((100000:Int)<steps)=false:=by simp[hb2]
 have e3:decide ((100000:Int)<nO)=false:=by simp[hb3]
 have hs0:0<=steps:=by omega
 go_wp2_with fail;refine(implFlat_any bP 0 len len F w0 hlen (HA.out.below HB0.out HA.out.lt).at).mono ?_;rintro e w1⟨rfl,b1⟩;have HX1:Hid (w1.ownsRow w.heap.size 28 9 (.slice (some ⟨w.heap.size,0,none⟩) 1 1) 1 [.slice (some ⟨bR,0,none⟩) nR nR,.bool z,.bool c,.bool hz,.bool hc,.slice (some ⟨bH,0,none⟩) nH nH,.int .i64 pc,.int .i64 st,.slice (some ⟨bO,0,none⟩) nO nO]):=row_below HX0.out b1;have HZ1:Hid (w1.ownsRow w.heap.size 28 9 (.slice (some ⟨w.heap.size+1,0,none⟩) 1 1) 1 [.slice none 0 0,.bool false,.bool false,.bool false,.bool false,.slice none 0 0,.int .i64 0,.int .i64 0,.slice none 0 0]):=row_below HZ0.out b1;have HB1:Hid (Below w.heap.size w w1):=HB0.out.trans (b1.mono (by omega));have z1:w0.heap.size<=w1.heap.size:=b1.size;have y0:w.heap.size<w1.heap.size:=by omega
 have y1:w.heap.size+1<w1.heap.size:=by omega
 clear q0 q1 q2 q3 q4 q5 q6 q7 q8 b1 HX0 HZ0 HB0;obtain⟨q0,q1,q2,q3,q4,q5,q6,q7,q8⟩:=cells9 HX1.out;cases hf:flatOK len F with
 |false=>
  obtain⟨s0,s1,s2,s3,s4,s5,s6,s7,s8⟩:=cells9 HZ1.out;have sf:∀i,w1.frozen? ⟨w.heap.size+1,i,none⟩=false:=fun i=>HZ1.out.frozenAt i
  go_wp2;refine bodyPost_ret (v:=.agg #[.slice none 0 0,.bool false,.bool false,.bool false,.bool false,.slice none 0 0,.int .i64 0,.int .i64 0,.slice none 0 0]) (by simp[results,Tryz.results8,go_sem,s0,s1,s2,s3,s4,s5,s6,s7,s8]) rfl ⟨_,rfl,?_,?_⟩
  ·iterate 9 refine Below.setCell ?_ (by simp) _
   exact HB1.out
  ·have e1:runA len F nR {R:=R,z:=z,c:=c,hz:=hz,hc:=hc,nH:=nH,Hp:=Hp,pc:=pc,st:=st,nO:=nO,K:=K,V:=V} steps=none:=by
    unfold runA;rw[if_neg];simp only[Bool.and_eq_true];exact fun h=>by have:=h.1.1;rw[hf]at this;cases this
   rw[e1];rfl
 |true=>
  have HF:Hid (flatOK len F=true):=hf;clear hf;go_wp2_with fail;refine(implMach_any bR nR R z c hz hc bH nH Hp blk pc st bO nO K V w1 HS.out (fun i hi=>(HR.out.base i hi).1) (HM.out.below HB1.out (Nat.le_refl _))).mono ?_;rintro e w2⟨rfl,b2⟩;have HX2:Hid (w2.ownsRow w.heap.size 28 9 (.slice (some ⟨w.heap.size,0,none⟩) 1 1) 1 [.slice (some ⟨bR,0,none⟩) nR nR,.bool z,.bool c,.bool hz,.bool hc,.slice (some ⟨bH,0,none⟩) nH nH,.int .i64 pc,.int .i64 st,.slice (some ⟨bO,0,none⟩) nO nO]):=row_below HX1.out b2;have HZ2:Hid (w2.ownsRow w.heap.size 28 9 (.slice (some ⟨w.heap.size+1,0,none⟩) 1 1) 1 [.slice none 0 0,.bool false,.bool false,.bool false,.bool false,.slice none 0 0,.int .i64 0,.int .i64 0,.slice none 0 0]):=row_below HZ1.out b2;have HB2:Hid (Below w.heap.size w w2):=HB1.out.trans (b2.mono (by omega));have z2:w1.heap.size<=w2.heap.size:=b2.size;have y0:w.heap.size<w2.heap.size:=by omega
  have y1:w.heap.size+1<w2.heap.size:=by omega
  clear q0 q1 q2 q3 q4 q5 q6 q7 q8 b2 HX1 HZ1 HB1;obtain⟨q0,q1,q2,q3,q4,q5,q6,q7,q8⟩:=cells9 HX2.out;cases hmo:machOK nR z c hz hc nH Hp pc st nO K with
  |false=>
   obtain⟨s0,s1,s2,s3,s4,s5,s6,s7,s8⟩:=cells9 HZ2.out;have sf:∀i,w2.frozen? ⟨w.heap.size+1,i,none⟩=false:=fun i=>HZ2.out.frozenAt i
   go_wp2;refine bodyPost_ret (v:=.agg #[.slice none 0 0,.bool false,.bool false,.bool false,.bool false,.slice none 0 0,.int .i64 0,.int .i64 0,.slice none 0 0]) (by simp[results,Tryz.results8,go_sem,s0,s1,s2,s3,s4,s5,s6,s7,s8]) rfl ⟨_,rfl,?_,?_⟩
   ·iterate 9 refine Below.setCell ?_ (by simp) _
    exact HB2.out
   ·have e1:runA len F nR {R:=R,z:=z,c:=c,hz:=hz,hc:=hc,nH:=nH,Hp:=Hp,pc:=pc,st:=st,nO:=nO,K:=K,V:=V} steps=none:=by
     unfold runA;rw[if_neg];simp only[Bool.and_eq_true];exact fun h=>by have h2:=h.1.2;rw[hmo]at h2;cases h2
    rw[e1];rfl
  |true=>
   obtain⟨rfl,hnH,hlh,hpc,hnO⟩:=mach_facts hmo;have OK:=mach_ok (V:=V) hmo HR.out;have HGO:Hid (Going {R:=R,z:=z,c:=c,hz:=hz,hc:=hc,nH:=nH,Hp:=Hp,pc:=pc,st:=st,nO:=nO,K:=K,V:=V} nO):=⟨OK,hpc,Nat.le_refl _⟩
   have HANS:Hid (runA len F 8 {R:=R,z:=z,c:=c,hz:=hz,hc:=hc,nH:=nH,Hp:=Hp,pc:=pc,st:=st,nO:=nO,K:=K,V:=V} steps=some (runM len F steps.toNat {R:=R,z:=z,c:=c,hz:=hz,hc:=hc,nH:=nH,Hp:=Hp,pc:=pc,st:=st,nO:=nO,K:=K,V:=V})):=by
    show runA _ _ _ _ _=_;unfold runA;rw[if_pos];simp only[Bool.and_eq_true];exact⟨⟨HF.out,hmo⟩,by unfold inB;simp only[Bool.and_eq_true,decide_eq_true_eq];omega,by simp only[decide_eq_true_eq];omega⟩
   have HLH:Hid (∀i,i<nH->1<=(Hp i).len/\(Hp i).len<=4096):=fun i hi=>⟨(hlh i hi).1,(hlh i hi).2.1⟩
   obtain⟨sn,hsn⟩:=Int.eq_ofNat_of_zero_le hs0;have hsn2:steps.toNat=sn:=by omega
   have HSN:Hid (steps.toNat=sn):=hsn2;subst hsn;clear OK hmo hlh hsn2 hpc;go_wp2_with fail;refine(newCore_any bR 8 R z c hz hc bH nH Hp blk pc st bO nO K V w2 rfl hnH (by omega) HLH.out (HM.out.below HB2.out (Nat.le_refl _))).mono ?_;rintro e w3⟨bC,p,tab,rfl,b3,C3⟩;have HZ3:Hid (w3.ownsRow w.heap.size 28 9 (.slice (some ⟨w.heap.size+1,0,none⟩) 1 1) 1 [.slice none 0 0,.bool false,.bool false,.bool false,.bool false,.slice none 0 0,.int .i64 0,.int .i64 0,.slice none 0 0]):=row_below HZ2.out b3;have HB3:Hid (Below w.heap.size w w3):=HB2.out.trans (b3.mono (by omega));have z3:w2.heap.size<=w3.heap.size:=b3.size;have H3:Hid (Core w3 w2.heap.size bC p 0 tab {R:=R,z:=z,c:=c,hz:=hz,hc:=hc,nH:=nH,Hp:=Hp,pc:=pc,st:=st,nO:=nO,K:=K,V:=V}):=C3;clear q0 q1 q2 q3 q4 q5 q6 q7 q8 b3 C3 HX2 HZ2;go_wp2_with fail;go_loopw [8](fun i wr=>∃q:Nat,q<=sn/\i=.int .i64 q/\Below w2.heap.size w3 wr/\∃(p:Pl)(nx:Int)(N:MV),Core wr w2.heap.size bC p nx tab N/\Going N (nO+q)/\runM len F (sn-q) N=runM len F sn {R:=R,z:=z,c:=c,hz:=hz,hc:=hc,nH:=nH,Hp:=Hp,pc:=pc,st:=st,nO:=nO,K:=K,V:=V})(fun i _=>sn-(intOf i).toNat)
   case atStart=>exact⟨0,Nat.zero_le _,rfl,Below.refl _ _,p,0,_,H3.out,HGO.out,rfl⟩
   case round=>
    obtain⟨q,hq,rfl,hbr,p,nx,N,hC,hg,hrun⟩:=hrel;have HBR:Hid (Below w2.heap.size w3 wr):=hbr;have HC:Hid (Core wr w2.heap.size bC p nx tab N):=hC;have HG:Hid (Going N (nO+q)):=hg;have HRUN:Hid (runM len F (sn-q) N=runM len F sn {R:=R,z:=z,c:=c,hz:=hz,hc:=hc,nH:=nH,Hp:=Hp,pc:=pc,st:=st,nO:=nO,K:=K,V:=V}):=hrun;have lC:=hC.lt;have zr:w3.heap.size<=wr.heap.size:=hbr.size;have hCl:=lC.2;have c7:wr.cell? ⟨bC,7,none⟩=some (.int .i64 N.st):=hC.c7;clear hbr hC hg hrun;by_cases hlt:q<sn
    ·have hlt':(q:Int)<sn:=by omega
     by_cases hst:N.st=0
     ·rw[hst]at c7
      go_wp2_with fail;refine(step_any HC.out HG.out.ok (by have:=HG.out.seen;omega) HG.out.pc bP 0 len len F ((HA.out.below (HB3.out.trans (HBR.out.mono (by omega))) HA.out.lt).at) HF.out).mono ?_;rintro e w4⟨rfl,b4,p',nx',C4⟩;have HR4:Hid (runM len F (sn-(q+1)) (stepM len F N)=runM len F sn {R:=R,z:=z,c:=c,hz:=hz,hc:=hc,nH:=nH,Hp:=Hp,pc:=pc,st:=st,nO:=nO,K:=K,V:=V}):=by
       rw[<-runM_step len F _ hst,show sn-(q+1)+1=sn-q by omega];exact HRUN.out
      have HG4:Hid (Going (stepM len F N) (nO+(q+1))):=stepM_going HF.out HG.out;have HC4:Hid (Core w4 w2.heap.size bC p' nx' tab (stepM len F N)):=C4;have HB4:Hid (Below w2.heap.size w3 w4):=HBR.out.trans b4;clear b4 C4 c7;go_wp2;go_roundw
      case rel=>exact⟨q+1,by omega,by go_num,HB4.out,p',nx',_,HC4.out,HG4.out,HR4.out⟩
      case measure=>simp[intOf];omega
     ·have hq2:runM len F sn {R:=R,z:=z,c:=c,hz:=hz,hc:=hc,nH:=nH,Hp:=Hp,pc:=pc,st:=st,nO:=nO,K:=K,V:=V}=N:=by rw[<-HRUN.out];exact runM_stop _ _ _ hst
      have hstb:(N.st==0)=false:=by simp[hst]
      have HQ2:Hid (runM len F _ {R:=R,z:=z,c:=c,hz:=hz,hc:=hc,nH:=nH,Hp:=Hp,pc:=pc,st:=st,nO:=nO,K:=K,V:=V}=N):=hq2;have HZr:Hid (wr.ownsRow w.heap.size 28 9 (.slice (some ⟨w.heap.size+1,0,none⟩) 1 1) 1 [.slice none 0 0,.bool false,.bool false,.bool false,.bool false,.slice none 0 0,.int .i64 0,.int .i64 0,.slice none 0 0]):=row_low HZ3.out (by simp[Value.ownBlock];omega) HBR.out;have HBf:Hid (Below w.heap.size w wr):=HB3.out.trans (HBR.out.mono (by omega));have yr:w.heap.size+1<wr.heap.size:=by omega
      have hne:bC≠w.heap.size+1:=by omega
      have d0:=HC.out.c0;have d1:=HC.out.c1;have d2:=HC.out.c2;have d3:=HC.out.c3;have d4:=HC.out.c4;have d5:=HC.out.c5;have d6:=HC.out.c6;have d8:=HC.out.c8;obtain⟨s0,s1,s2,s3,s4,s5,s6,s7,s8⟩:=cells9 HZr.out;have sf:∀i,wr.frozen? ⟨w.heap.size+1,i,none⟩=false:=fun i=>HZr.out.frozenAt i
      clear hq2;go_wp2;refine bodyPost_ret (v:=.agg #[.slice (some ⟨p.bR,0,none⟩) 8 p.cR,.bool N.z,.bool N.c,.bool N.hz,.bool N.hc,.slice p.aH N.nH p.cH,.int .i64 N.pc,.int .i64 N.st,.slice p.aO N.nO p.cO]) (by simp[results,Tryz.results8,go_sem,s0,s1,s2,s3,s4,s5,s6,s7,s8]) rfl ⟨_,rfl,?_,?_⟩
      ·iterate 9 refine Below.setCell ?_ (by simp) _
       exact HBf.out
      ·rw[HANS.out,HSN.out,HQ2.out]
       refine⟨p,rfl,Mem.mono (base:=w2.heap.size) ?_ (by omega)⟩;iterate 9 refine Mem.setLow ?_ (by simp;omega) _
       exact HC.out.mem
    ·obtain rfl:q=sn:=by omega
     have hq2:runM len F q {R:=R,z:=z,c:=c,hz:=hz,hc:=hc,nH:=nH,Hp:=Hp,pc:=pc,st:=st,nO:=nO,K:=K,V:=V}=N:=by rw[<-HRUN.out,Nat.sub_self];rfl
     have HQ2:Hid (runM len F _ {R:=R,z:=z,c:=c,hz:=hz,hc:=hc,nH:=nH,Hp:=Hp,pc:=pc,st:=st,nO:=nO,K:=K,V:=V}=N):=hq2;have HZr:Hid (wr.ownsRow w.heap.size 28 9 (.slice (some ⟨w.heap.size+1,0,none⟩) 1 1) 1 [.slice none 0 0,.bool false,.bool false,.bool false,.bool false,.slice none 0 0,.int .i64 0,.int .i64 0,.slice none 0 0]):=row_low HZ3.out (by simp[Value.ownBlock];omega) HBR.out;have HBf:Hid (Below w.heap.size w wr):=HB3.out.trans (HBR.out.mono (by omega));have yr:w.heap.size+1<wr.heap.size:=by omega
     have hne:bC≠w.heap.size+1:=by omega
     have d0:=HC.out.c0;have d1:=HC.out.c1;have d2:=HC.out.c2;have d3:=HC.out.c3;have d4:=HC.out.c4;have d5:=HC.out.c5;have d6:=HC.out.c6;have d8:=HC.out.c8;obtain⟨s0,s1,s2,s3,s4,s5,s6,s7,s8⟩:=cells9 HZr.out;have sf:∀i,wr.frozen? ⟨w.heap.size+1,i,none⟩=false:=fun i=>HZr.out.frozenAt i
     clear hq2;go_wp2;refine bodyPost_ret (v:=.agg #[.slice (some ⟨p.bR,0,none⟩) 8 p.cR,.bool N.z,.bool N.c,.bool N.hz,.bool N.hc,.slice p.aH N.nH p.cH,.int .i64 N.pc,.int .i64 N.st,.slice p.aO N.nO p.cO]) (by simp[results,Tryz.results8,go_sem,s0,s1,s2,s3,s4,s5,s6,s7,s8]) rfl ⟨_,rfl,?_,?_⟩
     ·iterate 9 refine Below.setCell ?_ (by simp) _
      exact HBf.out
     ·rw[HANS.out,HSN.out,HQ2.out]
      refine⟨p,rfl,Mem.mono (base:=w2.heap.size) ?_ (by omega)⟩;iterate 9 refine Mem.setLow ?_ (by simp;omega) _
      exact HC.out.mem
end Go.Proofs.YtpbceodheeepoaaGreat
