import Derived.Test.YtpbceodheeepoaaGreatRunMath
set_option maxHeartbeats 4000000
set_option maxRecDepth 20000
namespace Go.Proofs.YtpbceodheeepoaaGreat
open Go.RowKit
theorem specRun_any(bP len:Nat)(F:Nat->Nat->Int)(bR nR:Nat)(R:Nat->Int)(z c hz hc:Bool)(bH nH:Nat)(Hp:Nat->HeapV)(blk:Nat->Nat)(pc st:Int)(bO nO:Nat)(K V:Nat->Int)(steps:Int)(w:World)
 (hlen:len<=1048576)(hat:Arr w bP (len*6) (insF F))(hs:Small nR nH Hp nO)(hr:InRange R nH Hp)(hm:MachCp w bR nR R bH nH Hp blk bO nO K V):
 Calls Tryz.prog 9 #[.slice (some ⟨bP,0,none⟩) len len,.agg #[.slice (some ⟨bR,0,none⟩) nR nR,.bool z,.bool c,.bool hz,.bool hc,.slice (some ⟨bH,0,none⟩) nH nH,.int .i64 pc,.int .i64 st,.slice (some ⟨bO,0,none⟩) nO nO],.int .i64 steps] w fun e w'=>∃v,e=.returned v/\Below w.heap.size w w'/\Ans w' w.heap.size v (runA len F nR {R:=R,z:=z,c:=c,hz:=hz,hc:=hc,nH:=nH,Hp:=Hp,pc:=pc,st:=st,nO:=nO,K:=K,V:=V} steps):=by
 have HA:Hid (Arr w bP (len*6) (insF F)):=hat;have HS:Hid (Small nR nH Hp nO):=hs;have HR:Hid (InRange R nH Hp):=hr;have HM:Hid (MachCp w bR nR R bH nH Hp blk bO nO K V):=hm;have lA:=hat.lt;clear hat hs hr hm;go_enter Tryz.func9,Tryz.ntmps9;go_upto_region 1 with fail;generalize hw0:(w.alloc (.cells #[.slice (some ⟨bR,0,none⟩) nR nR,.bool z,.bool c,.bool hz,.bool hc,.slice (some ⟨bH,0,none⟩) nH nH,.int .i64 pc,.int .i64 st,.slice (some ⟨bO,0,none⟩) nO nO] 28)).alloc (.cells #[.slice none 0 0,.bool false,.bool false,.bool false,.bool false,.slice none 0 0,.int .i64 0,.int .i64 0,.slice none 0 0] 28)=w0;have b0:Below w.heap.size w w0:=by rw[<-hw0];exact((Below.refl _ _).alloc (Nat.le_refl _) _).alloc (by simp) _
 have z0:w.heap.size+2<=w0.heap.size:=by rw[<-hw0];simp
 have HX0:Hid (w0.ownsRow w.heap.size 28 9 (.slice (some ⟨w.heap.size,0,none⟩) 1 1) 1 [.slice (some ⟨bR,0,none⟩) nR nR,.bool z,.bool c,.bool hz,.bool hc,.slice (some ⟨bH,0,none⟩) nH nH,.int .i64 pc,.int .i64 st,.slice (some ⟨bO,0,none⟩) nO nO]):=by rw[<-hw0];exact(World.ownsRow_lit w #[.slice (some ⟨bR,0,none⟩) nR nR,.bool z,.bool c,.bool hz,.bool hc,.slice (some ⟨bH,0,none⟩) nH nH,.int .i64 pc,.int .i64 st,.slice (some ⟨bO,0,none⟩) nO nO] 1 (Nat.le_refl _) (by unfold maxLen;omega) rfl).alloc _
 have HZ0:Hid (w0.ownsRow w.heap.size 28 9 (.slice (some ⟨w.heap.size+1,0,none⟩) 1 1) 1 [.slice none 0 0,.bool false,.bool false,.bool false,.bool false,.slice none 0 0,.int .i64 0,.int .i64 0,.slice none 0 0]):=by
  rw[<-hw0];have:=World.ownsRow_lit (base:=w.heap.size) (e:=28) (size:=9) (w.alloc (.cells #[.slice (some ⟨bR,0,none⟩) nR nR,.bool z,.bool c,.bool hz,.bool hc,.slice (some ⟨bH,0,none⟩) nH nH,.int .i64 pc,.int .i64 st,.slice (some ⟨bO,0,none⟩) nO nO] 28)) #[.slice none 0 0,.bool false,.bool false,.bool false,.bool false,.slice none 0 0,.int .i64 0,.int .i64 0,.slice none 0 0] 1 (by simp) (by unfold maxLen;omega) rfl;rw[World.size_alloc]at this;exact this
 have HB0:Hid (Below w.heap.size w w0):=b0;have y0:w.heap.size<w0.heap.size:=by omega
 have y1:w.heap.size+1<w0.heap.size:=by omega
 obtain⟨q0,q1,q2,q3,q4,q5,q6,q7,q8⟩:=cells9 HX0.out;clear hw0 b0;go_wp2_with fail;refine(specFlat_any bP 0 len len F w0 hlen (HA.out.below HB0.out HA.out.lt).at).mono ?_;rintro e w1⟨rfl,b1⟩;have HX1:Hid (w1.ownsRow w.heap.size 28 9 (.slice (some ⟨w.heap.size,0,none⟩) 1 1) 1 [.slice (some ⟨bR,0,none⟩) nR nR,.bool z,.bool c,.bool hz,.bool hc,.slice (some ⟨bH,0,none⟩) nH nH,.int .i64 pc,.int .i64 st,.slice (some ⟨bO,0,none⟩) nO nO]):=row_below HX0.out b1;have HZ1:Hid (w1.ownsRow w.heap.size 28 9 (.slice (some ⟨w.heap.size+1,0,none⟩) 1 1) 1 [.slice none 0 0,.bool false,.bool false,.bool false,.bool false,.slice none 0 0,.int .i64 0,.int .i64 0,.slice none 0 0]):=row_below HZ0.out b1;have HB1:Hid (Below w.heap.size w w1):=HB0.out.trans (b1.mono (by omega));have z1:w0.heap.size<=w1.heap.size:=b1.size;have y0:w.heap.size<w1.heap.size:=by omega
 have y1:w.heap.size+1<w1.heap.size:=by omega
 clear q0 q1 q2 q3 q4 q5 q6 q7 q8 b1 HX0 HZ0 HB0;obtain⟨q0,q1,q2,q3,q4,q5,q6,q7,q8⟩:=cells9 HX1.out;cases hf:flatOK len F with
 |false=>
  obtain⟨s0,s1,s2,s3,s4,s5,s6,s7,s8⟩:=cells9 HZ1.out;have sf:∀i,w1.frozen? ⟨w.heap.size+1,i,none⟩=false:=fun i=>HZ1.out.frozenAt i
  go_wp2;refine bodyPost_ret (v:=.agg #[.slice none 0 0,.bool false,.bool false,.bool false,.bool false,.slice none 0 0,.int .i64 0,.int .i64 0,.slice none 0 0]) (by simp[results,Tryz.results9,go_sem,s0,s1,s2,s3,s4,s5,s6,s7,s8]) rfl ⟨_,rfl,?_,?_⟩
  ·iterate 9 refine Below.setCell ?_ (by simp) _
   exact HB1.out
  ·have e1:runA len F nR {R:=R,z:=z,c:=c,hz:=hz,hc:=hc,nH:=nH,Hp:=Hp,pc:=pc,st:=st,nO:=nO,K:=K,V:=V} steps=none:=by
    unfold runA;rw[if_neg];simp only[Bool.and_eq_true];exact fun h=>by have:=h.1.1;rw[hf]at this;cases this
   rw[e1];rfl
 |true=>
  have HF:Hid (flatOK len F=true):=hf;clear hf;go_wp2_with fail;refine(specMach_any bR nR z c hz hc R bH nH Hp blk pc st bO nO K V w1 HS.out HR.out.base (HM.out.below HB1.out (Nat.le_refl _))).mono ?_;rintro e w2⟨rfl,b2⟩;have HX2:Hid (w2.ownsRow w.heap.size 28 9 (.slice (some ⟨w.heap.size,0,none⟩) 1 1) 1 [.slice (some ⟨bR,0,none⟩) nR nR,.bool z,.bool c,.bool hz,.bool hc,.slice (some ⟨bH,0,none⟩) nH nH,.int .i64 pc,.int .i64 st,.slice (some ⟨bO,0,none⟩) nO nO]):=row_below HX1.out b2;have HZ2:Hid (w2.ownsRow w.heap.size 28 9 (.slice (some ⟨w.heap.size+1,0,none⟩) 1 1) 1 [.slice none 0 0,.bool false,.bool false,.bool false,.bool false,.slice none 0 0,.int .i64 0,.int .i64 0,.slice none 0 0]):=row_below HZ1.out b2;have HB2:Hid (Below w.heap.size w w2):=HB1.out.trans (b2.mono (by omega));have z2:w1.heap.size<=w2.heap.size:=b2.size;have y0:w.heap.size<w2.heap.size:=by omega
  have y1:w.heap.size+1<w2.heap.size:=by omega
  clear q0 q1 q2 q3 q4 q5 q6 q7 q8 b2 HX1 HZ1 HB1;obtain⟨q0,q1,q2,q3,q4,q5,q6,q7,q8⟩:=cells9 HX2.out;cases hmo:machOK nR z c hz hc nH Hp pc st nO K with
  |false=>
   obtain⟨s0,s1,s2,s3,s4,s5,s6,s7,s8⟩:=cells9 HZ2.out;have sf:∀i,w2.frozen? ⟨w.heap.size+1,i,none⟩=false:=fun i=>HZ2.out.frozenAt i
   go_wp2;refine bodyPost_ret (v:=.agg #[.slice none 0 0,.bool false,.bool false,.bool false,.bool false,.slice none 0 0,.int .i64 0,.int .i64 0,.slice none 0 0]) (by simp[results,Tryz.results9,go_sem,s0,s1,s2,s3,s4,s5,s6,s7,s8]) rfl ⟨_,rfl,?_,?_⟩
   ·iterate 9 refine Below.setCell ?_ (by simp) _
    exact HB2.out
   ·have e1:runA len F nR {R:=R,z:=z,c:=c,hz:=hz,hc:=hc,nH:=nH,Hp:=Hp,pc:=pc,st:=st,nO:=nO,K:=K,V:=V} steps=none:=by
     unfold runA;rw[if_neg];simp only[Bool.and_eq_true];exact fun h=>by have h2:=h.1.2;rw[hmo]at h2;cases h2
    rw[e1];rfl
  |true=>
   go_wp2_with fail;refine(in_any _ _ _ _).mono ?_;rintro e w9⟨rfl,hw9⟩;rw[hw9];clear hw9 w9;cases hin:inB steps 0 100000 with
   |false=>
    obtain⟨s0,s1,s2,s3,s4,s5,s6,s7,s8⟩:=cells9 HZ2.out;have sf:∀i,w2.frozen? ⟨w.heap.size+1,i,none⟩=false:=fun i=>HZ2.out.frozenAt i
    go_wp2;refine bodyPost_ret (v:=.agg #[.slice none 0 0,.bool false,.bool false,.bool false,.bool false,.slice none 0 0,.int .i64 0,.int .i64 0,.slice none 0 0]) (by simp[results,Tryz.results9,go_sem,s0,s1,s2,s3,s4,s5,s6,s7,s8]) rfl ⟨_,rfl,?_,?_⟩
    ·iterate 9 refine Below.setCell ?_ (by simp) _
     exact HB2.out
    ·have e1:runA len F nR {R:=R,z:=z,c:=c,hz:=hz,hc:=hc,nH:=nH,Hp:=Hp,pc:=pc,st:=st,nO:=nO,K:=K,V:=V} steps=none:=by
      unfold runA;rw[if_neg];simp only[Bool.and_eq_true];exact fun h=>by have h2:=h.2.1;rw[hin]at h2;cases h2
     rw[e1];rfl
   |true=>
    by_cases hb3:(100000:Int)<nO
    ·have e3:decide ((100000:Int)<nO)=true:=by simp[hb3]
     obtain⟨s0,s1,s2,s3,s4,s5,s6,s7,s8⟩:=cells9 HZ2.out;have sf:∀i,w2.frozen? ⟨w.heap.size+1,i,none⟩=false:=fun i=>HZ2.out.frozenAt i
     go_wp2;refine bodyPost_ret (v:=.agg #[.slice none 0 0,.bool false,.bool false,.bool false,.bool false,.slice none 0 0,.int .i64 0,.int .i64 0,.slice none 0 0]) (by simp[results,Tryz.results9,go_sem,s0,s1,s2,s3,s4,s5,s6,s7,s8]) rfl ⟨_,rfl,?_,?_⟩
     ·iterate 9 refine Below.setCell ?_ (by simp) _
      exact HB2.out
     ·have e1:runA len F nR {R:=R,z:=z,c:=c,hz:=hz,hc:=hc,nH:=nH,Hp:=Hp,pc:=pc,st:=st,nO:=nO,K:=K,V:=V} steps=none:=by
       unfold runA;rw[if_neg];simp only[Bool.and_eq_true];exact fun h=>by have:=h.2.2;simp only[decide_eq_true_eq]at this;omega
      rw[e1];rfl
    have e3:decide ((100000:Int)<nO)=false:=by simp[hb3]
    have hb1:¬steps<0:=by unfold inB at hin;simp only[Bool.and_eq_true,decide_eq_true_eq]at hin;omega
    have hb2:¬(100000:Int)<steps:=by unfold inB at hin;simp only[Bool.and_eq_true,decide_eq_true_eq]at hin;omega
    have hs0:0<=steps:=by omega
    clear hin;obtain⟨rfl,hnH,hlh,hpc,hnO⟩:=mach_facts hmo;have OK:=mach_ok (V:=V) hmo HR.out;have HGO:Hid (Going {R:=R,z:=z,c:=c,hz:=hz,hc:=hc,nH:=nH,Hp:=Hp,pc:=pc,st:=st,nO:=nO,K:=K,V:=V} nO):=⟨OK,hpc,Nat.le_refl _⟩
    have HANS:Hid (runA len F 8 {R:=R,z:=z,c:=c,hz:=hz,hc:=hc,nH:=nH,Hp:=Hp,pc:=pc,st:=st,nO:=nO,K:=K,V:=V} steps=some (runM len F steps.toNat {R:=R,z:=z,c:=c,hz:=hz,hc:=hc,nH:=nH,Hp:=Hp,pc:=pc,st:=st,nO:=nO,K:=K,V:=V})):=by
     show runA _ _ _ _ _=_;unfold runA;rw[if_pos];simp only[Bool.and_eq_true];exact⟨⟨HF.out,hmo⟩,by unfold inB;simp only[Bool.and_eq_true,decide_eq_true_eq];omega,by simp only[decide_eq_true_eq];omega⟩
    have HLH:Hid (∀i,i<nH->1<=(Hp i).len/\(Hp i).len<=4096):=fun i hi=>⟨(hlh i hi).1,(hlh i hi).2.1⟩
    obtain⟨sn,hsn⟩:=Int.eq_ofNat_of_zero_le hs0;have hsn2:steps.toNat=sn:=by omega
    have HSN:Hid (steps.toNat=sn):=hsn2;subst hsn;clear OK hmo hlh hsn2 hpc;go_wp2_with fail;refine(l1Copy_any bR 8 R z c hz hc bH nH Hp blk pc st bO nO K V w2 rfl hnH (by omega) HLH.out (HM.out.below HB2.out (Nat.le_refl _))).mono ?_;rintro e w3⟨p,rfl,b3,M3⟩;have HZ3:Hid (w3.ownsRow w.heap.size 28 9 (.slice (some ⟨w.heap.size+1,0,none⟩) 1 1) 1 [.slice none 0 0,.bool false,.bool false,.bool false,.bool false,.slice none 0 0,.int .i64 0,.int .i64 0,.slice none 0 0]):=row_below HZ2.out b3;have HB3:Hid (Below w.heap.size w w3):=HB2.out.trans (b3.mono (by omega));have z3:w2.heap.size<=w3.heap.size:=b3.size;have H3:Hid (Mem w3 w2.heap.size p {R:=R,z:=z,c:=c,hz:=hz,hc:=hc,nH:=nH,Hp:=Hp,pc:=pc,st:=st,nO:=nO,K:=K,V:=V}):=M3;clear q0 q1 q2 q3 q4 q5 q6 q7 q8 b3 M3 HX2 HZ2;go_wp2_with fail;generalize hw4:w3.alloc (.cells #[.slice (some ⟨p.bR,0,none⟩) 8 p.cR,.bool z,.bool c,.bool hz,.bool hc,.slice p.aH nH p.cH,.int .i64 pc,.int .i64 st,.slice p.aO nO p.cO] 28)=w4;have b4:Below w3.heap.size w3 w4:=by rw[<-hw4];exact(Below.refl _ _).alloc (Nat.le_refl _) _
    have v4:w4.ownsRow w.heap.size 28 9 (.slice (some ⟨w3.heap.size,0,none⟩) 1 1) 1 [.slice (some ⟨p.bR,0,none⟩) 8 p.cR,.bool ({R:=R,z:=z,c:=c,hz:=hz,hc:=hc,nH:=nH,Hp:=Hp,pc:=pc,st:=st,nO:=nO,K:=K,V:=V}:MV).z,.bool ({R:=R,z:=z,c:=c,hz:=hz,hc:=hc,nH:=nH,Hp:=Hp,pc:=pc,st:=st,nO:=nO,K:=K,V:=V}:MV).c,.bool ({R:=R,z:=z,c:=c,hz:=hz,hc:=hc,nH:=nH,Hp:=Hp,pc:=pc,st:=st,nO:=nO,K:=K,V:=V}:MV).hz,.bool ({R:=R,z:=z,c:=c,hz:=hz,hc:=hc,nH:=nH,Hp:=Hp,pc:=pc,st:=st,nO:=nO,K:=K,V:=V}:MV).hc,.slice p.aH ({R:=R,z:=z,c:=c,hz:=hz,hc:=hc,nH:=nH,Hp:=Hp,pc:=pc,st:=st,nO:=nO,K:=K,V:=V}:MV).nH p.cH,.int .i64 ({R:=R,z:=z,c:=c,hz:=hz,hc:=hc,nH:=nH,Hp:=Hp,pc:=pc,st:=st,nO:=nO,K:=K,V:=V}:MV).pc,.int .i64 ({R:=R,z:=z,c:=c,hz:=hz,hc:=hc,nH:=nH,Hp:=Hp,pc:=pc,st:=st,nO:=nO,K:=K,V:=V}:MV).st,.slice p.aO ({R:=R,z:=z,c:=c,hz:=hz,hc:=hc,nH:=nH,Hp:=Hp,pc:=pc,st:=st,nO:=nO,K:=K,V:=V}:MV).nO p.cO]:=by rw[<-hw4];exact World.ownsRow_lit w3 #[.slice (some ⟨p.bR,0,none⟩) 8 p.cR,.bool ({R:=R,z:=z,c:=c,hz:=hz,hc:=hc,nH:=nH,Hp:=Hp,pc:=pc,st:=st,nO:=nO,K:=K,V:=V}:MV).z,.bool ({R:=R,z:=z,c:=c,hz:=hz,hc:=hc,nH:=nH,Hp:=Hp,pc:=pc,st:=st,nO:=nO,K:=K,V:=V}:MV).c,.bool ({R:=R,z:=z,c:=c,hz:=hz,hc:=hc,nH:=nH,Hp:=Hp,pc:=pc,st:=st,nO:=nO,K:=K,V:=V}:MV).hz,.bool ({R:=R,z:=z,c:=c,hz:=hz,hc:=hc,nH:=nH,Hp:=Hp,pc:=pc,st:=st,nO:=nO,K:=K,V:=V}:MV).hc,.slice p.aH ({R:=R,z:=z,c:=c,hz:=hz,hc:=hc,nH:=nH,Hp:=Hp,pc:=pc,st:=st,nO:=nO,K:=K,V:=V}:MV).nH p.cH,.int .i64 ({R:=R,z:=z,c:=c,hz:=hz,hc:=hc,nH:=nH,Hp:=Hp,pc:=pc,st:=st,nO:=nO,K:=K,V:=V}:MV).pc,.int .i64 ({R:=R,z:=z,c:=c,hz:=hz,hc:=hc,nH:=nH,Hp:=Hp,pc:=pc,st:=st,nO:=nO,K:=K,V:=V}:MV).st,.slice p.aO ({R:=R,z:=z,c:=c,hz:=hz,hc:=hc,nH:=nH,Hp:=Hp,pc:=pc,st:=st,nO:=nO,K:=K,V:=V}:MV).nO p.cO] 1 (by omega) (by unfold maxLen;omega) rfl
    have H4:Hid (Mem w4 w2.heap.size p {R:=R,z:=z,c:=c,hz:=hz,hc:=hc,nH:=nH,Hp:=Hp,pc:=pc,st:=st,nO:=nO,K:=K,V:=V}):=H3.out.below b4;have HV4:Hid (w4.ownsRow w.heap.size 28 9 (.slice (some ⟨w3.heap.size,0,none⟩) 1 1) 1 [.slice (some ⟨p.bR,0,none⟩) 8 p.cR,.bool ({R:=R,z:=z,c:=c,hz:=hz,hc:=hc,nH:=nH,Hp:=Hp,pc:=pc,st:=st,nO:=nO,K:=K,V:=V}:MV).z,.bool ({R:=R,z:=z,c:=c,hz:=hz,hc:=hc,nH:=nH,Hp:=Hp,pc:=pc,st:=st,nO:=nO,K:=K,V:=V}:MV).c,.bool ({R:=R,z:=z,c:=c,hz:=hz,hc:=hc,nH:=nH,Hp:=Hp,pc:=pc,st:=st,nO:=nO,K:=K,V:=V}:MV).hz,.bool ({R:=R,z:=z,c:=c,hz:=hz,hc:=hc,nH:=nH,Hp:=Hp,pc:=pc,st:=st,nO:=nO,K:=K,V:=V}:MV).hc,.slice p.aH ({R:=R,z:=z,c:=c,hz:=hz,hc:=hc,nH:=nH,Hp:=Hp,pc:=pc,st:=st,nO:=nO,K:=K,V:=V}:MV).nH p.cH,.int .i64 ({R:=R,z:=z,c:=c,hz:=hz,hc:=hc,nH:=nH,Hp:=Hp,pc:=pc,st:=st,nO:=nO,K:=K,V:=V}:MV).pc,.int .i64 ({R:=R,z:=z,c:=c,hz:=hz,hc:=hc,nH:=nH,Hp:=Hp,pc:=pc,st:=st,nO:=nO,K:=K,V:=V}:MV).st,.slice p.aO ({R:=R,z:=z,c:=c,hz:=hz,hc:=hc,nH:=nH,Hp:=Hp,pc:=pc,st:=st,nO:=nO,K:=K,V:=V}:MV).nO p.cO]):=v4;have HZ4:Hid (w4.ownsRow w.heap.size 28 9 (.slice (some ⟨w.heap.size+1,0,none⟩) 1 1) 1 [.slice none 0 0,.bool false,.bool false,.bool false,.bool false,.slice none 0 0,.int .i64 0,.int .i64 0,.slice none 0 0]):=row_below HZ3.out b4;have HB4:Hid (Below w.heap.size w w4):=HB3.out.trans (b4.mono (by omega));have z4:w3.heap.size<w4.heap.size:=by rw[<-hw4];simp
    clear hw4 b4 v4;go_loopw [8](fun i wr=>∃q:Nat,q<=sn/\i=.int .i64 q/\Below w.heap.size w wr/\∃(p:Pl)(N:MV),Mem wr w2.heap.size p N/\wr.ownsRow w.heap.size 28 9 (.slice (some ⟨w3.heap.size,0,none⟩) 1 1) 1 [.slice (some ⟨p.bR,0,none⟩) 8 p.cR,.bool N.z,.bool N.c,.bool N.hz,.bool N.hc,.slice p.aH N.nH p.cH,.int .i64 N.pc,.int .i64 N.st,.slice p.aO N.nO p.cO]/\wr.ownsRow w.heap.size 28 9 (.slice (some ⟨w.heap.size+1,0,none⟩) 1 1) 1 [.slice none 0 0,.bool false,.bool false,.bool false,.bool false,.slice none 0 0,.int .i64 0,.int .i64 0,.slice none 0 0]/\Going N (nO+q)/\runM len F (sn-q) N=runM len F sn {R:=R,z:=z,c:=c,hz:=hz,hc:=hc,nH:=nH,Hp:=Hp,pc:=pc,st:=st,nO:=nO,K:=K,V:=V})(fun i _=>sn-(intOf i).toNat)
    case atStart=>exact⟨0,Nat.zero_le _,rfl,HB4.out,p,_,H4.out,HV4.out,HZ4.out,HGO.out,rfl⟩
    case round=>
     obtain⟨q,hq,rfl,hbr,p,N,hM,hV,hZ,hg,hrun⟩:=hrel;have HBR:Hid (Below w.heap.size w wr):=hbr;have HMr:Hid (Mem wr w2.heap.size p N):=hM;have HV:Hid (wr.ownsRow w.heap.size 28 9 (.slice (some ⟨w3.heap.size,0,none⟩) 1 1) 1 [.slice (some ⟨p.bR,0,none⟩) 8 p.cR,.bool N.z,.bool N.c,.bool N.hz,.bool N.hc,.slice p.aH N.nH p.cH,.int .i64 N.pc,.int .i64 N.st,.slice p.aO N.nO p.cO]):=hV;have HZ:Hid (wr.ownsRow w.heap.size 28 9 (.slice (some ⟨w.heap.size+1,0,none⟩) 1 1) 1 [.slice none 0 0,.bool false,.bool false,.bool false,.bool false,.slice none 0 0,.int .i64 0,.int .i64 0,.slice none 0 0]):=hZ;have HG:Hid (Going N (nO+q)):=hg;have HRUN:Hid (runM len F (sn-q) N=runM len F sn {R:=R,z:=z,c:=c,hz:=hz,hc:=hc,nH:=nH,Hp:=Hp,pc:=pc,st:=st,nO:=nO,K:=K,V:=V}):=hrun;have lV:=(hV.lt w3.heap.size rfl).2;obtain⟨o0,o1,o2,o3,o4,o5,o6,o7,o8⟩:=cells9 hV;have of:∀i,wr.frozen? ⟨w3.heap.size,i,none⟩=false:=fun i=>HV.out.frozenAt i
     clear hbr hM hV hZ hg hrun;by_cases hlt:q<sn
     ·have hlt':(q:Int)<sn:=by omega
      by_cases hst:N.st=0
      ·rw[hst]at o7
       go_wp2_with fail;have hcl:=l1Step_any (M:=N) do_any HMr.out HG.out.ok (by have:=HG.out.seen;omega) HG.out.pc bP 0 len len F ((HA.out.below HBR.out HA.out.lt).at) HF.out;rw[if_pos hst]at hcl;unfold mVal at hcl;rw[hst]at hcl;refine Calls.mono hcl ?_;rintro e w5⟨⟨p',rfl,b5,m5⟩,k5⟩;have V5:=k5.row HV.out;have Z5:=k5.row HZ.out;have HR4:Hid (runM len F (sn-(q+1)) (stepM len F N)=runM len F sn {R:=R,z:=z,c:=c,hz:=hz,hc:=hc,nH:=nH,Hp:=Hp,pc:=pc,st:=st,nO:=nO,K:=K,V:=V}):=by
        rw[<-runM_step len F _ hst,show sn-(q+1)+1=sn-q by omega];exact HRUN.out
       have HG4:Hid (Going (stepM len F N) (nO+(q+1))):=stepM_going HF.out HG.out;generalize stepM len F N=N5 at m5 HR4 HG4⊢;have HM5:Hid (Mem w5 w2.heap.size p' N5):=m5;have HV5:Hid (w5.ownsRow w.heap.size 28 9 (.slice (some ⟨w3.heap.size,0,none⟩) 1 1) 1 [.slice (some ⟨p.bR,0,none⟩) 8 p.cR,.bool N.z,.bool N.c,.bool N.hz,.bool N.hc,.slice p.aH N.nH p.cH,.int .i64 N.pc,.int .i64 N.st,.slice p.aO N.nO p.cO]):=V5;have HZ5:Hid (w5.ownsRow w.heap.size 28 9 (.slice (some ⟨w.heap.size+1,0,none⟩) 1 1) 1 [.slice none 0 0,.bool false,.bool false,.bool false,.bool false,.slice none 0 0,.int .i64 0,.int .i64 0,.slice none 0 0]):=Z5;have HB5:Hid (Below w.heap.size w w5):=HBR.out.trans (b5.mono (by omega));have l5:=(V5.lt w3.heap.size rfl).2;clear o0 o1 o2 o3 o4 o5 o6 o7 o8 of;obtain⟨o0,o1,o2,o3,o4,o5,o6,o7,o8⟩:=cells9 V5;have of:∀i,w5.frozen? ⟨w3.heap.size,i,none⟩=false:=fun i=>HV5.out.frozenAt i
       clear hcl b5 k5 m5 V5 Z5;simp only[mVal];go_wp2;go_roundw
       case rel=>
        refine⟨q+1,by omega,by go_num,?_,p',N5,?_,?_,?_,HG4.out,HR4.out⟩
        ·iterate 9 refine Below.setCell ?_ (by simp;omega) _
         exact HB5.out
        ·iterate 9 refine Mem.setOff ?_ (off_row HM5.out HV5.out) _ _
         exact HM5.out
        ·exact(((((((((HV5.out.stored 0 _).1.stored 1 _).1.stored 2 _).1.stored 3 _).1.stored 4 _).1.stored 5 _).1.stored 6 _).1.stored 7 _).1.stored 8 _).1
        ·iterate 9 refine ownsRow_setCell_other ?_ (by simp[Value.ownBlock];omega) _
         exact HZ5.out
       case measure=>simp[intOf];omega
      ·have hq2:runM len F sn {R:=R,z:=z,c:=c,hz:=hz,hc:=hc,nH:=nH,Hp:=Hp,pc:=pc,st:=st,nO:=nO,K:=K,V:=V}=N:=by rw[<-HRUN.out];exact runM_stop _ _ _ hst
       have hstb:(N.st==0)=false:=by simp[hst]
       have HQ2:Hid (runM len F _ {R:=R,z:=z,c:=c,hz:=hz,hc:=hc,nH:=nH,Hp:=Hp,pc:=pc,st:=st,nO:=nO,K:=K,V:=V}=N):=hq2;have yr:w.heap.size+1<wr.heap.size:=by omega
       obtain⟨s0,s1,s2,s3,s4,s5,s6,s7,s8⟩:=cells9 HZ.out;have sf:∀i,wr.frozen? ⟨w.heap.size+1,i,none⟩=false:=fun i=>HZ.out.frozenAt i
       clear hq2;go_wp2;refine bodyPost_ret (v:=.agg #[.slice (some ⟨p.bR,0,none⟩) 8 p.cR,.bool N.z,.bool N.c,.bool N.hz,.bool N.hc,.slice p.aH N.nH p.cH,.int .i64 N.pc,.int .i64 N.st,.slice p.aO N.nO p.cO]) (by simp[results,Tryz.results9,go_sem,s0,s1,s2,s3,s4,s5,s6,s7,s8]) rfl ⟨_,rfl,?_,?_⟩
       ·iterate 9 refine Below.setCell ?_ (by simp) _
        exact HBR.out
       ·rw[HANS.out,HSN.out,HQ2.out]
        refine⟨p,rfl,Mem.mono (base:=w2.heap.size) ?_ (by omega)⟩;iterate 9 refine Mem.setLow ?_ (by simp;omega) _
        exact HMr.out
     ·obtain rfl:q=sn:=by omega
      have hq2:runM len F q {R:=R,z:=z,c:=c,hz:=hz,hc:=hc,nH:=nH,Hp:=Hp,pc:=pc,st:=st,nO:=nO,K:=K,V:=V}=N:=by rw[<-HRUN.out,Nat.sub_self];rfl
      have HQ2:Hid (runM len F _ {R:=R,z:=z,c:=c,hz:=hz,hc:=hc,nH:=nH,Hp:=Hp,pc:=pc,st:=st,nO:=nO,K:=K,V:=V}=N):=hq2;have yr:w.heap.size+1<wr.heap.size:=by omega
      obtain⟨s0,s1,s2,s3,s4,s5,s6,s7,s8⟩:=cells9 HZ.out;have sf:∀i,wr.frozen? ⟨w.heap.size+1,i,none⟩=false:=fun i=>HZ.out.frozenAt i
      clear hq2;go_wp2;refine bodyPost_ret (v:=.agg #[.slice (some ⟨p.bR,0,none⟩) 8 p.cR,.bool N.z,.bool N.c,.bool N.hz,.bool N.hc,.slice p.aH N.nH p.cH,.int .i64 N.pc,.int .i64 N.st,.slice p.aO N.nO p.cO]) (by simp[results,Tryz.results9,go_sem,s0,s1,s2,s3,s4,s5,s6,s7,s8]) rfl ⟨_,rfl,?_,?_⟩
      ·iterate 9 refine Below.setCell ?_ (by simp) _
       exact HBR.out
      ·rw[HANS.out,HSN.out,HQ2.out]
       refine⟨p,rfl,Mem.mono (base:=w2.heap.size) ?_ (by omega)⟩;iterate 9 refine Mem.setLow ?_ (by simp;omega) _
       exact HMr.out
end Go.Proofs.YtpbceodheeepoaaGreat
