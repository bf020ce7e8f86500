import Derived.Test.YtcjnmdgomocpgaaGreatDoorOfRunMath
import Derived.Test.YtcjnmdgomocpgaaGreatDoorSpecStep
set_option maxHeartbeats 4000000
set_option maxRecDepth 20000
namespace Go.Proofs.YtcjnmdgomocpgaaGreatDoor
open Go.RowKit
theorem Qw(bP b cP:Nat)(F:Nat->Nat->Int)(xR:Option Addr)(yR bR j:Nat)(R:Nat->Int)(z c hz hc:Bool)(Z:Option Addr)(yH bH nH:Nat)(Hp:Nat->Bv)(hA:Nat->Option Addr)(hC:Nat->Nat)(pc st:Int)(xO:Option Addr)(yO bO nO:Nat)(K V:Nat->Int)(a:Int)(w:World)
 (ar:b<=1048576)(ag:Ak w bP (b*6) (Kt F))(hs:Small j nH Hp nO)(hr:Lf R nH Hp)(hm:Hf w xR yR bR j R Z yH bH nH Hp hA hC xO yO bO nO K V):
 Ks 14 #[Vs bP b cP,.agg #[.slice xR j yR,.bool z,.bool c,.bool hz,.bool hc,.slice Z nH yH,Vi pc,Vi st,.slice xO nO yO],Vi a] w fun e w'=>∃v,e=.returned v/\Below w.heap.size w w'/\yM w' w.heap.size v (Jh b F j {R:=R,z:=z,c:=c,hz:=hz,hc:=hc,nH:=nH,Hp:=Hp,pc:=pc,st:=st,nO:=nO,K:=K,V:=V} a):=by
 have HA:=hxy ag;have HS:=hxy hs;have HR:=hxy hr;have HM:=hxy hm;have lA:=ag.lt;clear ag hs hr hm;go_enter Tryz.func14,Tryz.ntmps14;go_upto_region 1 with fail;generalize r:(w.alloc (.cells #[.slice xR j yR,.bool z,.bool c,.bool hz,.bool hc,.slice Z nH yH,Vi pc,Vi st,.slice xO nO yO] 39)).alloc (.cells Zq 39)=w0;have b0:Bw w w0:=by rw[<-r];exact(Ai).alloc AX _
 have z0:w.heap.size+2<=w0.heap.size:=by rw[<-r];simp
 have ae:Hid (w0.ownsRow w.heap.size 39 9 (Vs w.heap.size 1 1) 1 [.slice xR j yR,.bool z,.bool c,.bool hz,.bool hc,.slice Z nH yH,Vi pc,Vi st,.slice xO nO yO]):=by rw[<-r];exact(World.ownsRow_lit w #[.slice xR j yR,.bool z,.bool c,.bool hz,.bool hc,.slice Z nH yH,Vi pc,Vi st,.slice xO nO yO] 1 BQ (by unfold maxLen;omega) rfl).alloc _
 have an:Hid (w0.ownsRow w.heap.size 39 9 (.slice (some ⟨w.heap.size+1,0,none⟩) 1 1) 1 Zp):=by
  rw[<-r];have:=World.ownsRow_lit (base:=w.heap.size) (e:=39) (size:=9) (w.alloc (.cells #[.slice xR j yR,.bool z,.bool c,.bool hz,.bool hc,.slice Z nH yH,Vi pc,Vi st,.slice xO nO yO] 39)) Zq 1 AX (by unfold maxLen;omega) rfl;rw[World.size_alloc]at this;exact this
 have aa:=hxy b0;have y0:w.heap.size<w0.heap.size:=AB;have y1:w.heap.size+1<w0.heap.size:=AB;have q0:=Dl ae;clear r b0;go_wp2_with fail;refine(Ir bP 0 b cP F w0 ar (HA.below aa HA.lt).at).mono ?_;rintro e w1⟨rfl,b1⟩;have af:=hxy (Av ae b1);have Q:=hxy (Av an b1);have L:Hid (Bw w w1):=aa.trans (b1.mono AB);have z1:=b1.size;have y0:w.heap.size<w1.heap.size:=AB;have y1:w.heap.size+1<w1.heap.size:=AB;clear q0 b1 ae an aa;have q0:=Dl af;cases hf:EW b F with
 |false=>
  obtain⟨s,u,x,y,A,B,C,D,E⟩:=Dl Q;have sf:∀i,w1.frozen? ⟨w.heap.size+1,i,none⟩=false:=fun i=>Q.frozenAt i
  go_wp2;refine mY (.agg Zq) (by simp[results,Tryz.results14,go_sem,s,u,x,y,A,B,C,D,E]) ⟨_,rfl,?_,?_⟩
  ·iterate 9 refine Below.setCell ?_ AX _
   exact L
  ·have e1:Jh b F j {R:=R,z:=z,c:=c,hz:=hz,hc:=hc,nH:=nH,Hp:=Hp,pc:=pc,st:=st,nO:=nO,K:=K,V:=V} a=none:=by
    unfold Jh;rw[if_neg];simp only[Bool.and_eq_true];exact fun h=>by have:=h.1.1;rw[hf]at this;cases this
   rw[e1];rfl
 |true=>
  have HF:=hxy hf;clear hf;go_wp2_with fail;refine(JK xR yR bR j z c hz hc R Z yH bH nH Hp hA hC pc st xO yO bO nO K V w1 HS HR.base (HM.below L BQ)).mono ?_;rintro e J⟨rfl,b2⟩;have am:=hxy (Av af b2);have d:=hxy (Av Q b2);have m:Hid (Bw w J):=L.trans (b2.mono AB);have z2:=b2.size;have y0:w.heap.size<J.heap.size:=AB;have y1:w.heap.size+1<J.heap.size:=AB;clear q0 b2 af Q L;have q0:=Dl am;cases hmo:Et j z c hz hc nH Hp pc st nO K with
  |false=>
   obtain⟨s,u,x,y,A,B,C,D,E⟩:=Dl d;have sf:∀i,J.frozen? ⟨w.heap.size+1,i,none⟩=false:=fun i=>d.frozenAt i
   go_wp2;refine mY (.agg Zq) (by simp[results,Tryz.results14,go_sem,s,u,x,y,A,B,C,D,E]) ⟨_,rfl,?_,?_⟩
   ·iterate 9 refine Below.setCell ?_ AX _
    exact m
   ·have e1:Jh b F j {R:=R,z:=z,c:=c,hz:=hz,hc:=hc,nH:=nH,Hp:=Hp,pc:=pc,st:=st,nO:=nO,K:=K,V:=V} a=none:=by
     unfold Jh;rw[if_neg];simp only[Bool.and_eq_true];exact fun h=>by have h2:=h.1.2;rw[hmo]at h2;cases h2
    rw[e1];rfl
  |true=>
   go_wp2_with fail;refine(Eu _ _ _ _).mono ?_;rintro e w9⟨rfl,av⟩;rw[av];clear av w9;cases hin:EM a 0 100000 with
   |false=>
    obtain⟨s,u,x,y,A,B,C,D,E⟩:=Dl d;have sf:∀i,J.frozen? ⟨w.heap.size+1,i,none⟩=false:=fun i=>d.frozenAt i
    go_wp2;refine mY (.agg Zq) (by simp[results,Tryz.results14,go_sem,s,u,x,y,A,B,C,D,E]) ⟨_,rfl,?_,?_⟩
    ·iterate 9 refine Below.setCell ?_ AX _
     exact m
    ·have e1:Jh b F j {R:=R,z:=z,c:=c,hz:=hz,hc:=hc,nH:=nH,Hp:=Hp,pc:=pc,st:=st,nO:=nO,K:=K,V:=V} a=none:=by
      unfold Jh;rw[if_neg];simp only[Bool.and_eq_true];exact fun h=>by have h2:=h.2.1;rw[hin]at h2;cases h2
     rw[e1];rfl
   |true=>
    by_cases ao:(100000:Int)<nO
    ·have e3:decide ((100000:Int)<nO)=true:=by simp[ao]
     obtain⟨s,u,x,y,A,B,C,D,E⟩:=Dl d;have sf:∀i,J.frozen? ⟨w.heap.size+1,i,none⟩=false:=fun i=>d.frozenAt i
     go_wp2;refine mY (.agg Zq) (by simp[results,Tryz.results14,go_sem,s,u,x,y,A,B,C,D,E]) ⟨_,rfl,?_,?_⟩
     ·iterate 9 refine Below.setCell ?_ AX _
      exact m
     ·have e1:Jh b F j {R:=R,z:=z,c:=c,hz:=hz,hc:=hc,nH:=nH,Hp:=Hp,pc:=pc,st:=st,nO:=nO,K:=K,V:=V} a=none:=by
       unfold Jh;rw[if_neg];simp only[Bool.and_eq_true];exact fun h=>by have:=h.2.2;simp only[decide_eq_true_eq]at this;omega
      rw[e1];rfl
    have e3:decide ((100000:Int)<nO)=false:=by simp[ao]
    have aK:¬a<0:=by unfold EM at hin;simp only[Bool.and_eq_true,decide_eq_true_eq]at hin;omega
    have aM:¬(100000:Int)<a:=by unfold EM at hin;simp only[Bool.and_eq_true,decide_eq_true_eq]at hin;omega
    have hs0:0<=a:=AB;clear hin;obtain⟨rfl,aF,ah,au,aP⟩:=PL hmo;have OK:=qR (V:=V) hmo HR;have az:Hid (Going {R:=R,z:=z,c:=c,hz:=hz,hc:=hc,nH:=nH,Hp:=Hp,pc:=pc,st:=st,nO:=nO,K:=K,V:=V} nO):=⟨OK,au,BQ⟩
    have U:Hid (Jh b F 8 {R:=R,z:=z,c:=c,hz:=hz,hc:=hc,nH:=nH,Hp:=Hp,pc:=pc,st:=st,nO:=nO,K:=K,V:=V} a=some (MQ b F a.toNat {R:=R,z:=z,c:=c,hz:=hz,hc:=hc,nH:=nH,Hp:=Hp,pc:=pc,st:=st,nO:=nO,K:=K,V:=V})):=by
     show Jh _ _ _ _ _=_;unfold Jh;rw[if_pos];simp only[Bool.and_eq_true];exact⟨⟨HF,hmo⟩,by unfold EM;simp only[Bool.and_eq_true,decide_eq_true_eq];omega,by simp only[decide_eq_true_eq];omega⟩
    have aA:Hid (∀i,i<nH->1<=(Hp i).len/\(Hp i).len<=4096):=fun i hi=>⟨(ah i hi).1,(ah i hi).2.1⟩
    obtain⟨l,aG⟩:=Int.eq_ofNat_of_zero_le hs0;have Y:a.toNat=l:=AB;have al:=hxy Y;subst aG;clear OK hmo ah Y au;go_wp2_with fail;refine(Wn xR yR bR 8 R z c hz hc Z yH bH nH Hp hA hC pc st xO yO bO nO K V J rfl aF AB aA (HM.below m BQ)).mono ?_;rintro e I⟨p,rfl,b3,M3⟩;have aC:=hxy (Av d b3);have aw:Hid (Bw w I):=m.trans (b3.mono AB);have z3:=b3.size;have H3:=hxy M3;clear q0 b3 M3 am d;go_wp2_with fail;generalize S:I.alloc (.cells #[Vs p.bR 8 p.cR,.bool z,.bool c,.bool hz,.bool hc,.slice p.aH nH p.cH,Vi pc,Vi st,.slice p.aO nO p.cO] 39)=w4;have b4:Bw I w4:=by rw[<-S];exact Ai
    have v4:w4.ownsRow w.heap.size 39 9 (Vs I.heap.size 1 1) 1 [Vs p.bR 8 p.cR,.bool ({R:=R,z:=z,c:=c,hz:=hz,hc:=hc,nH:=nH,Hp:=Hp,pc:=pc,st:=st,nO:=nO,K:=K,V:=V}:MV).z,.bool ({R:=R,z:=z,c:=c,hz:=hz,hc:=hc,nH:=nH,Hp:=Hp,pc:=pc,st:=st,nO:=nO,K:=K,V:=V}:MV).c,.bool ({R:=R,z:=z,c:=c,hz:=hz,hc:=hc,nH:=nH,Hp:=Hp,pc:=pc,st:=st,nO:=nO,K:=K,V:=V}:MV).hz,.bool ({R:=R,z:=z,c:=c,hz:=hz,hc:=hc,nH:=nH,Hp:=Hp,pc:=pc,st:=st,nO:=nO,K:=K,V:=V}:MV).hc,.slice p.aH ({R:=R,z:=z,c:=c,hz:=hz,hc:=hc,nH:=nH,Hp:=Hp,pc:=pc,st:=st,nO:=nO,K:=K,V:=V}:MV).nH p.cH,Vi ({R:=R,z:=z,c:=c,hz:=hz,hc:=hc,nH:=nH,Hp:=Hp,pc:=pc,st:=st,nO:=nO,K:=K,V:=V}:MV).pc,Vi ({R:=R,z:=z,c:=c,hz:=hz,hc:=hc,nH:=nH,Hp:=Hp,pc:=pc,st:=st,nO:=nO,K:=K,V:=V}:MV).st,.slice p.aO ({R:=R,z:=z,c:=c,hz:=hz,hc:=hc,nH:=nH,Hp:=Hp,pc:=pc,st:=st,nO:=nO,K:=K,V:=V}:MV).nO p.cO]:=by rw[<-S];exact World.ownsRow_lit I #[Vs p.bR 8 p.cR,.bool ({R:=R,z:=z,c:=c,hz:=hz,hc:=hc,nH:=nH,Hp:=Hp,pc:=pc,st:=st,nO:=nO,K:=K,V:=V}:MV).z,.bool ({R:=R,z:=z,c:=c,hz:=hz,hc:=hc,nH:=nH,Hp:=Hp,pc:=pc,st:=st,nO:=nO,K:=K,V:=V}:MV).c,.bool ({R:=R,z:=z,c:=c,hz:=hz,hc:=hc,nH:=nH,Hp:=Hp,pc:=pc,st:=st,nO:=nO,K:=K,V:=V}:MV).hz,.bool ({R:=R,z:=z,c:=c,hz:=hz,hc:=hc,nH:=nH,Hp:=Hp,pc:=pc,st:=st,nO:=nO,K:=K,V:=V}:MV).hc,.slice p.aH ({R:=R,z:=z,c:=c,hz:=hz,hc:=hc,nH:=nH,Hp:=Hp,pc:=pc,st:=st,nO:=nO,K:=K,V:=V}:MV).nH p.cH,Vi ({R:=R,z:=z,c:=c,hz:=hz,hc:=hc,nH:=nH,Hp:=Hp,pc:=pc,st:=st,nO:=nO,K:=K,V:=V}:MV).pc,Vi ({R:=R,z:=z,c:=c,hz:=hz,hc:=hc,nH:=nH,Hp:=Hp,pc:=pc,st:=st,nO:=nO,K:=K,V:=V}:MV).st,.slice p.aO ({R:=R,z:=z,c:=c,hz:=hz,hc:=hc,nH:=nH,Hp:=Hp,pc:=pc,st:=st,nO:=nO,K:=K,V:=V}:MV).nO p.cO] 1 AB (by unfold maxLen;omega) rfl
    have H4:=hxy (H3.below b4);have aB:=hxy v4;have aD:=hxy (Av aC b4);have ax:Hid (Bw w w4):=aw.trans (b4.mono AB);have z4:I.heap.size<w4.heap.size:=by rw[<-S];simp
    clear S b4 v4;go_loopw [8](fun i wr=>∃q:Nat,q<=l/\i=Vi q/\Bw w wr/\∃(p:Pl)(N:MV),Mem wr J.heap.size p N/\wr.ownsRow w.heap.size 39 9 (Vs I.heap.size 1 1) 1 [Vs p.bR 8 p.cR,.bool N.z,.bool N.c,.bool N.hz,.bool N.hc,.slice p.aH N.nH p.cH,Vi N.pc,Vi N.st,.slice p.aO N.nO p.cO]/\wr.ownsRow w.heap.size 39 9 (.slice (some ⟨w.heap.size+1,0,none⟩) 1 1) 1 Zp/\Going N (nO+q)/\MQ b F (l-q) N=MQ b F l {R:=R,z:=z,c:=c,hz:=hz,hc:=hc,nH:=nH,Hp:=Hp,pc:=pc,st:=st,nO:=nO,K:=K,V:=V})(fun i _=>l-(intOf i).toNat)
    case atStart=>exact⟨0,Nat.zero_le _,rfl,ax,p,_,H4,aB,aD,az,rfl⟩
    case round=>
     obtain⟨q,hq,rfl,ap,p,N,hM,hV,hZ,hg,X⟩:=hrel;have O:=hxy ap;have ab:=hxy hM;have HV:=hxy hV;have HZ:=hxy hZ;have HG:=hxy hg;have n:=hxy X;have lV:=(hV.lt I.heap.size rfl).2;obtain⟨o0,o1,o2,o3,o4,o5,o6,o7,o8⟩:=Dl hV;have of:∀i,wr.frozen? ⟨I.heap.size,i,none⟩=false:=fun i=>HV.frozenAt i
     clear ap hM hV hZ hg X;by_cases aN:q<l
     ·have aI:(q:Int)<l:=AB
      by_cases k:N.st=0
      ·rw[k]at o7
       go_wp2_with fail;have hcl:=R8 (M:=N) kV ab HG.ok (by have:=HG.seen;omega) HG.pc bP 0 b cP F ((HA.below O HA.lt).at) HF;rw[if_pos k]at hcl;unfold xX at hcl;rw[k]at hcl;refine Calls.mono hcl ?_;rintro e w5⟨⟨p',rfl,b5,m5⟩,k5⟩;have V5:=k5.row HV;have Z5:=k5.row HZ;have ak:Hid (MQ b F (l-(q+1)) (stepM b F N)=MQ b F l {R:=R,z:=z,c:=c,hz:=hz,hc:=hc,nH:=nH,Hp:=Hp,pc:=pc,st:=st,nO:=nO,K:=K,V:=V}):=by
        rw[<-Qq b F _ k,show l-(q+1)+1=l-q by omega];exact n
       have ai:=hxy (Mv HF HG);generalize stepM b F N=N5 at m5 ak ai⊢;have aj:=hxy m5;have ad:=hxy V5;have aE:=hxy Z5;have ay:Hid (Bw w w5):=O.trans (b5.mono AB);have l5:=(V5.lt I.heap.size rfl).2;clear o0 o1 o2 o3 o4 o5 o6 o7 o8 of;obtain⟨o0,o1,o2,o3,o4,o5,o6,o7,o8⟩:=Dl V5;have of:∀i,w5.frozen? ⟨I.heap.size,i,none⟩=false:=fun i=>ad.frozenAt i
       clear hcl b5 k5 m5 V5 Z5;simp only[xX];go_wp2;go_roundw
       case rel=>
        refine⟨q+1,AB,by go_num,?_,p',N5,?_,?_,?_,ai,ak⟩
        ·iterate 9 refine Below.setCell ?_ (by simp;omega) _
         exact ay
        ·iterate 9 refine Mem.setOff ?_ (Xc aj ad) _ _
         exact aj
        ·exact(((((((((ad.stored 0 _).1.stored 1 _).1.stored 2 _).1.stored 3 _).1.stored 4 _).1.stored 5 _).1.stored 6 _).1.stored 7 _).1.stored 8 _).1
        ·iterate 9 refine ownsRow_setCell_other ?_ (by simp[Value.ownBlock];omega) _
         exact aE
       case measure=>simp[intOf];omega
      ·have o:MQ b F l {R:=R,z:=z,c:=c,hz:=hz,hc:=hc,nH:=nH,Hp:=Hp,pc:=pc,st:=st,nO:=nO,K:=K,V:=V}=N:=by rw[<-n.out];exact EJ _ _ _ k
       have aJ:(N.st==0)=false:=by simp[k]
       have ac:=hxy o;have yr:w.heap.size+1<wr.heap.size:=AB;obtain⟨s,u,x,y,A,B,C,D,E⟩:=Dl HZ;have sf:∀i,wr.frozen? ⟨w.heap.size+1,i,none⟩=false:=fun i=>HZ.frozenAt i
       clear o;go_wp2;refine mY (.agg #[Vs p.bR 8 p.cR,.bool N.z,.bool N.c,.bool N.hz,.bool N.hc,.slice p.aH N.nH p.cH,Vi N.pc,Vi N.st,.slice p.aO N.nO p.cO]) (by simp[results,Tryz.results14,go_sem,s,u,x,y,A,B,C,D,E]) ⟨_,rfl,?_,?_⟩
       ·iterate 9 refine Below.setCell ?_ AX _
        exact O
       ·rw[U.out,al.out,ac.out]
        refine⟨p,rfl,Mem.mono (base:=J.heap.size) ?_ AB⟩;iterate 9 refine Mem.setLow ?_ (by simp;omega) _
        exact ab
     ·obtain rfl:q=l:=AB
      have o:MQ b F q {R:=R,z:=z,c:=c,hz:=hz,hc:=hc,nH:=nH,Hp:=Hp,pc:=pc,st:=st,nO:=nO,K:=K,V:=V}=N:=by rw[<-n.out,Nat.sub_self];rfl
      have ac:=hxy o;have yr:w.heap.size+1<wr.heap.size:=AB;obtain⟨s,u,x,y,A,B,C,D,E⟩:=Dl HZ;have sf:∀i,wr.frozen? ⟨w.heap.size+1,i,none⟩=false:=fun i=>HZ.frozenAt i
      clear o;go_wp2;refine mY (.agg #[Vs p.bR 8 p.cR,.bool N.z,.bool N.c,.bool N.hz,.bool N.hc,.slice p.aH N.nH p.cH,Vi N.pc,Vi N.st,.slice p.aO N.nO p.cO]) (by simp[results,Tryz.results14,go_sem,s,u,x,y,A,B,C,D,E]) ⟨_,rfl,?_,?_⟩
      ·iterate 9 refine Below.setCell ?_ AX _
       exact O
      ·rw[U.out,al.out,ac.out]
       refine⟨p,rfl,Mem.mono (base:=J.heap.size) ?_ AB⟩;iterate 9 refine Mem.setLow ?_ (by simp;omega) _
       exact ab
end Go.Proofs.YtcjnmdgomocpgaaGreatDoor
