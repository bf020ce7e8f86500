import Derived.Test.YtkckomianknjdaaGreatOfCoreF
import Derived.Test.YtkckomianknjdaaGreatOfRunMath
import Derived.Test.YtkckomianknjdaaGreatOfFlDraw
import Derived.Test.YtkckomianknjdaaGreatOfFlMath
import Derived.Test.YtkckomianknjdaaGreatEvSpec2
import Derived.Test.YtkckomianknjdaaGreatEvImpl
import Derived.Test.YtkckomianknjdaaGreatFrMach
import Derived.OpenShut
import Derived.ChangeOld
import Derived.Below
set_option maxHeartbeats 16000000
set_option maxRecDepth 100000
namespace Go.Proofs.YtkckomianknjdaaGreat
open Go.RowKit
theorem LF(bP b cP:Nat)(F:Nat->Nat->Int)(xR:Option Addr)(yR bR k:Nat)(R:Nat->Int)(z c hz hc:Bool)(xH:Option Addr)(yH bH nH:Nat)(Hp:Nat->Bj)(hA:Nat->Option Addr)(hC:Nat->Nat)(pc st:Int)(xO:Option Addr)(yO bO nO:Nat)(K V:Nat->Int)(a:Int)(w:World)
 (ar:b<=1048576)(ai:BZ w bP (b*6) (Ia F))(hs:Small k nH Hp nO)(hr:IQ R nH Hp)(hm:FN w xR yR bR k R xH yH bH nH Hp hA hC xO yO bO nO K V):
 Calls Tryz.prog 10 #[Vs bP b cP,.agg #[.slice xR k yR,.bool z,.bool c,.bool hz,.bool hc,.slice xH nH yH,Vi pc,Vi st,.slice xO nO yO],Vi a] w fun e w'=>∃v,e=.returned v/\Below w.heap.size w w'/\kJ w' w.heap.size v (IX b F k {R:=R,z:=z,c:=c,hz:=hz,hc:=hc,nH:=nH,Hp:=Hp,pc:=pc,st:=st,nO:=nO,K:=K,V:=V} a):=by
 have HA:=hxy ai;have HS:=hxy hs;have HR:=hxy hr;have HM:=hxy hm;have lA:=ai.lt;clear ai hs hr hm;go_enter Tryz.func10,Tryz.ntmps10;go_upto_region 1 with fail;generalize L:(w.alloc (.cells #[.slice xR k yR,.bool z,.bool c,.bool hz,.bool hc,.slice xH nH yH,Vi pc,Vi st,.slice xO nO yO] 28)).alloc (.cells #[.slice none 0 0,.bool false,.bool false,.bool false,.bool false,.slice none 0 0,Vi 0,Vi 0,.slice none 0 0] 28)=M;have b0:Bw w M:=by rw[<-L];exact(Ah).alloc AY _
 have z0:w.heap.size+2<=M.heap.size:=by rw[<-L];simp
 have ag:Hid (M.ownsRow w.heap.size 28 9 (Vs w.heap.size 1 1) 1 [.slice xR k yR,.bool z,.bool c,.bool hz,.bool hc,.slice xH nH yH,Vi pc,Vi st,.slice xO nO yO]):=by rw[<-L];exact(World.ownsRow_lit w #[.slice xR k yR,.bool z,.bool c,.bool hz,.bool hc,.slice xH nH yH,Vi pc,Vi st,.slice xO nO yO] 1 BP (by unfold maxLen;omega) rfl).alloc _
 have j:Hid (M.ownsRow w.heap.size 28 9 (.slice (some ⟨w.heap.size+1,0,none⟩) 1 1) 1 [.slice none 0 0,.bool false,.bool false,.bool false,.bool false,.slice none 0 0,Vi 0,Vi 0,.slice none 0 0]):=by
  rw[<-L];have:=World.ownsRow_lit (base:=w.heap.size) (e:=28) (size:=9) (w.alloc (.cells #[.slice xR k yR,.bool z,.bool c,.bool hz,.bool hc,.slice xH nH yH,Vi pc,Vi st,.slice xO nO yO] 28)) #[.slice none 0 0,.bool false,.bool false,.bool false,.bool false,.slice none 0 0,Vi 0,Vi 0,.slice none 0 0] 1 AY (by unfold maxLen;omega) rfl;rw[World.size_alloc]at this;exact this
 have l:=hxy b0;have y0:w.heap.size<M.heap.size:=AB;have y1:w.heap.size+1<M.heap.size:=AB;have q0:=BX ag;clear L b0;by_cases U:a<0
 ·have n:decide (a<0)=true:=by simp[U]
  obtain⟨o,r,s,u,x,y,A,B,C⟩:=BX j;have sf:∀i,M.frozen? ⟨w.heap.size+1,i,none⟩=false:=fun i=>j.frozenAt i
  go_wp2;refine bodyPost_ret (v:=.agg #[.slice none 0 0,.bool false,.bool false,.bool false,.bool false,.slice none 0 0,Vi 0,Vi 0,.slice none 0 0]) (by simp[results,Tryz.results10,go_sem,o,r,s,u,x,y,A,B,C]) rfl ⟨_,rfl,?_,?_⟩
  ·iterate 9 refine Below.setCell ?_ AY _
   exact l
  ·have n:IX b F k {R:=R,z:=z,c:=c,hz:=hz,hc:=hc,nH:=nH,Hp:=Hp,pc:=pc,st:=st,nO:=nO,K:=K,V:=V} a=none:=by
    unfold IX;rw[if_neg];simp only[Bool.and_eq_true];exact fun h=>by have:=h.2.1;unfold Dm at this;simp only[Bool.and_eq_true,decide_eq_true_eq]at this;omega
   rw[n];rfl
 by_cases aj:(100000:Int)<a
 ·have n:decide (a<0)=false:=by simp[U]
  have e2:decide ((100000:Int)<a)=true:=by simp[aj]
  obtain⟨o,r,s,u,x,y,A,B,C⟩:=BX j;have sf:∀i,M.frozen? ⟨w.heap.size+1,i,none⟩=false:=fun i=>j.frozenAt i
  go_wp2;refine bodyPost_ret (v:=.agg #[.slice none 0 0,.bool false,.bool false,.bool false,.bool false,.slice none 0 0,Vi 0,Vi 0,.slice none 0 0]) (by simp[results,Tryz.results10,go_sem,o,r,s,u,x,y,A,B,C]) rfl ⟨_,rfl,?_,?_⟩
  ·iterate 9 refine Below.setCell ?_ AY _
   exact l
  ·have n:IX b F k {R:=R,z:=z,c:=c,hz:=hz,hc:=hc,nH:=nH,Hp:=Hp,pc:=pc,st:=st,nO:=nO,K:=K,V:=V} a=none:=by
    unfold IX;rw[if_neg];simp only[Bool.and_eq_true];exact fun h=>by have:=h.2.1;unfold Dm at this;simp only[Bool.and_eq_true,decide_eq_true_eq]at this;omega
   rw[n];rfl
 by_cases ap:(100000:Int)<nO
 ·have n:decide (a<0)=false:=by simp[U]
  have e2:decide ((100000:Int)<a)=false:=by simp[aj]
  have e3:decide ((100000:Int)<nO)=true:=by simp[ap]
  obtain⟨o,r,s,u,x,y,A,B,C⟩:=BX j;have sf:∀i,M.frozen? ⟨w.heap.size+1,i,none⟩=false:=fun i=>j.frozenAt i
  go_wp2;refine bodyPost_ret (v:=.agg #[.slice none 0 0,.bool false,.bool false,.bool false,.bool false,.slice none 0 0,Vi 0,Vi 0,.slice none 0 0]) (by simp[results,Tryz.results10,go_sem,o,r,s,u,x,y,A,B,C]) rfl ⟨_,rfl,?_,?_⟩
  ·iterate 9 refine Below.setCell ?_ AY _
   exact l
  ·have n:IX b F k {R:=R,z:=z,c:=c,hz:=hz,hc:=hc,nH:=nH,Hp:=Hp,pc:=pc,st:=st,nO:=nO,K:=K,V:=V} a=none:=by
    unfold IX;rw[if_neg];simp only[Bool.and_eq_true];exact fun h=>by have:=h.2.2;simp only[decide_eq_true_eq]at this;omega
   rw[n];rfl
 have n:decide (a<0)=false:=by simp[U]
 have e2:decide ((100000:Int)<a)=false:=by simp[aj]
 have e3:decide ((100000:Int)<nO)=false:=by simp[ap]
 have hs0:0<=a:=AB;go_wp2_with fail;refine(Qd bP 0 b cP F M ar (HA.below l HA.lt).at).mono ?_;rintro e w1⟨rfl,b1⟩;have ah:=hxy (Am ag b1);have Q:=hxy (Am j b1);have O:Hid (Bw w w1):=l.trans (b1.mono AB);have z1:=b1.size;have y0:w.heap.size<w1.heap.size:=AB;have y1:w.heap.size+1<w1.heap.size:=AB;clear q0 b1 ag j l;have q0:=BX ah;cases hf:Dw b F with
 |false=>
  obtain⟨o,r,s,u,x,y,A,B,C⟩:=BX Q;have sf:∀i,w1.frozen? ⟨w.heap.size+1,i,none⟩=false:=fun i=>Q.frozenAt i
  go_wp2;refine bodyPost_ret (v:=.agg #[.slice none 0 0,.bool false,.bool false,.bool false,.bool false,.slice none 0 0,Vi 0,Vi 0,.slice none 0 0]) (by simp[results,Tryz.results10,go_sem,o,r,s,u,x,y,A,B,C]) rfl ⟨_,rfl,?_,?_⟩
  ·iterate 9 refine Below.setCell ?_ AY _
   exact O
  ·have n:IX b F k {R:=R,z:=z,c:=c,hz:=hz,hc:=hc,nH:=nH,Hp:=Hp,pc:=pc,st:=st,nO:=nO,K:=K,V:=V} a=none:=by
    unfold IX;rw[if_neg];simp only[Bool.and_eq_true];exact fun h=>by have:=h.1.1;rw[hf]at this;cases this
   rw[n];rfl
 |true=>
  have HF:=hxy hf;clear hf;go_wp2_with fail;refine(KM xR yR bR k R z c hz hc xH yH bH nH Hp hA hC pc st xO yO bO nO K V w1 HS (fun i hi=>(HR.base i hi).1) (HM.below O BP)).mono ?_;rintro e Y⟨rfl,b2⟩;have an:=hxy (Am ah b2);have S:=hxy (Am Q b2);have ac:Hid (Bw w Y):=O.trans (b2.mono AB);have z2:=b2.size;have y0:w.heap.size<Y.heap.size:=AB;have y1:w.heap.size+1<Y.heap.size:=AB;clear q0 b2 ah Q O;have q0:=BX an;cases hmo:DZ k z c hz hc nH Hp pc st nO K with
  |false=>
   obtain⟨o,r,s,u,x,y,A,B,C⟩:=BX S;have sf:∀i,Y.frozen? ⟨w.heap.size+1,i,none⟩=false:=fun i=>S.frozenAt i
   go_wp2;refine bodyPost_ret (v:=.agg #[.slice none 0 0,.bool false,.bool false,.bool false,.bool false,.slice none 0 0,Vi 0,Vi 0,.slice none 0 0]) (by simp[results,Tryz.results10,go_sem,o,r,s,u,x,y,A,B,C]) rfl ⟨_,rfl,?_,?_⟩
   ·iterate 9 refine Below.setCell ?_ AY _
    exact ac
   ·have n:IX b F k {R:=R,z:=z,c:=c,hz:=hz,hc:=hc,nH:=nH,Hp:=Hp,pc:=pc,st:=st,nO:=nO,K:=K,V:=V} a=none:=by
     unfold IX;rw[if_neg];simp only[Bool.and_eq_true];exact fun h=>by have h2:=h.1.2;rw[hmo]at h2;cases h2
    rw[n];rfl
  |true=>
   obtain⟨rfl,aB,al,au,aM⟩:=GY hmo;have OK:=QE (V:=V) hmo HR;have ay:Hid (Going {R:=R,z:=z,c:=c,hz:=hz,hc:=hc,nH:=nH,Hp:=Hp,pc:=pc,st:=st,nO:=nO,K:=K,V:=V} nO):=⟨OK,au,BP⟩
   have Z:Hid (IX b F 8 {R:=R,z:=z,c:=c,hz:=hz,hc:=hc,nH:=nH,Hp:=Hp,pc:=pc,st:=st,nO:=nO,K:=K,V:=V} a=some (Kn b F a.toNat {R:=R,z:=z,c:=c,hz:=hz,hc:=hc,nH:=nH,Hp:=Hp,pc:=pc,st:=st,nO:=nO,K:=K,V:=V})):=by
    show IX _ _ _ _ _=_;unfold IX;rw[if_pos];simp only[Bool.and_eq_true];exact⟨⟨HF,hmo⟩,by unfold Dm;simp only[Bool.and_eq_true,decide_eq_true_eq];omega,by simp only[decide_eq_true_eq];omega⟩
   have az:Hid (∀i,i<nH->1<=(Hp i).len/\(Hp i).len<=4096):=fun i hi=>⟨(al i hi).1,(al i hi).2.1⟩
   obtain⟨D,aD⟩:=Int.eq_ofNat_of_zero_le hs0;have ab:a.toNat=D:=AB;have am:=hxy ab;subst aD;clear OK hmo al ab au;go_wp2_with fail;refine(LG xR yR bR 8 R z c hz hc xH yH bH nH Hp hA hC pc st xO yO bO nO K V Y rfl aB AB az (HM.below ac BP)).mono ?_;rintro e w3⟨bC,p,aF,rfl,b3,C3⟩;have ao:=hxy (Am S b3);have ad:Hid (Bw w w3):=ac.trans (b3.mono AB);have z3:=b3.size;have H3:=hxy C3;clear q0 b3 C3 an S;go_wp2_with fail;go_loopw [8](fun i wr=>∃q:Nat,q<=D/\i=Vi q/\Below Y.heap.size w3 wr/\∃(p:Pl)(nx:Int)(N:MV),Core wr Y.heap.size bC p nx aF N/\Going N (nO+q)/\Kn b F (D-q) N=Kn b F D {R:=R,z:=z,c:=c,hz:=hz,hc:=hc,nH:=nH,Hp:=Hp,pc:=pc,st:=st,nO:=nO,K:=K,V:=V})(fun i _=>D-(intOf i).toNat)
   case atStart=>exact⟨0,Nat.zero_le _,rfl,Below.refl _ _,p,0,_,H3,ay,rfl⟩
   case round=>
    obtain⟨q,hq,rfl,ak,p,nx,N,hC,hg,aa⟩:=hrel;have m:=hxy ak;have d:=hxy hC;have HG:=hxy hg;have E:=hxy aa;have lC:=hC.lt;have zr:=ak.size;have aJ:=lC.2;have c7:=hC.c7;clear ak hC hg aa;by_cases aK:q<D
    ·have aG:(q:Int)<D:=AB
     by_cases X:N.st=0
     ·rw[X]at c7
      go_wp2_with fail;refine(Wv d HG.ok (by have:=HG.seen;omega) HG.pc bP 0 b cP F ((HA.below (ad.trans (m.mono AB)) HA.lt).at) HF).mono ?_;rintro e w4⟨rfl,b4,p',aE,C4⟩;have aA:Hid (Kn b F (D-(q+1)) (stepM b F N)=Kn b F D {R:=R,z:=z,c:=c,hz:=hz,hc:=hc,nH:=nH,Hp:=Hp,pc:=pc,st:=st,nO:=nO,K:=K,V:=V}):=by
       rw[<-Ou b F _ X,show D-(q+1)+1=D-q by omega];exact E
      have ax:=hxy (Qk HF HG);have aw:=hxy C4;have av:=hxy (m.trans b4);clear b4 C4 c7;go_wp2;go_roundw
      case rel=>exact⟨q+1,AB,by go_num,av,p',aE,_,aw,ax,aA⟩
      case measure=>simp[intOf];omega
     ·have J:Kn b F D {R:=R,z:=z,c:=c,hz:=hz,hc:=hc,nH:=nH,Hp:=Hp,pc:=pc,st:=st,nO:=nO,K:=K,V:=V}=N:=by rw[<-E.out];exact FX _ _ _ X
      have aI:(N.st==0)=false:=by simp[X]
      have af:=hxy J;have I:Hid (wr.ownsRow w.heap.size 28 9 (.slice (some ⟨w.heap.size+1,0,none⟩) 1 1) 1 [.slice none 0 0,.bool false,.bool false,.bool false,.bool false,.slice none 0 0,Vi 0,Vi 0,.slice none 0 0]):=KP ao (by simp[Value.ownBlock];omega) m;have ae:Hid (Bw w wr):=ad.trans (m.mono AB);have yr:w.heap.size+1<wr.heap.size:=AB;have aC:bC≠w.heap.size+1:=AB;have d0:=d.c0;have d1:=d.c1;have d2:=d.c2;have d3:=d.c3;have d4:=d.c4;have d5:=d.c5;have d6:=d.c6;have d8:=d.c8;obtain⟨o,r,s,u,x,y,A,B,C⟩:=BX I;have sf:∀i,wr.frozen? ⟨w.heap.size+1,i,none⟩=false:=fun i=>I.frozenAt i
      clear J;go_wp2;refine bodyPost_ret (v:=.agg #[Vs p.bR 8 p.cR,.bool N.z,.bool N.c,.bool N.hz,.bool N.hc,.slice p.aH N.nH p.cH,Vi N.pc,Vi N.st,.slice p.aO N.nO p.cO]) (by simp[results,Tryz.results10,go_sem,o,r,s,u,x,y,A,B,C]) rfl ⟨_,rfl,?_,?_⟩
      ·iterate 9 refine Below.setCell ?_ AY _
       exact ae
      ·rw[Z.out,am.out,af.out]
       refine⟨p,rfl,Mem.mono (base:=Y.heap.size) ?_ AB⟩;iterate 9 refine Mem.setLow ?_ (by simp;omega) _
       exact d.mem
    ·obtain rfl:q=D:=AB
     have J:Kn b F q {R:=R,z:=z,c:=c,hz:=hz,hc:=hc,nH:=nH,Hp:=Hp,pc:=pc,st:=st,nO:=nO,K:=K,V:=V}=N:=by rw[<-E.out,Nat.sub_self];rfl
     have af:=hxy J;have I:Hid (wr.ownsRow w.heap.size 28 9 (.slice (some ⟨w.heap.size+1,0,none⟩) 1 1) 1 [.slice none 0 0,.bool false,.bool false,.bool false,.bool false,.slice none 0 0,Vi 0,Vi 0,.slice none 0 0]):=KP ao (by simp[Value.ownBlock];omega) m;have ae:Hid (Bw w wr):=ad.trans (m.mono AB);have yr:w.heap.size+1<wr.heap.size:=AB;have aC:bC≠w.heap.size+1:=AB;have d0:=d.c0;have d1:=d.c1;have d2:=d.c2;have d3:=d.c3;have d4:=d.c4;have d5:=d.c5;have d6:=d.c6;have d8:=d.c8;obtain⟨o,r,s,u,x,y,A,B,C⟩:=BX I;have sf:∀i,wr.frozen? ⟨w.heap.size+1,i,none⟩=false:=fun i=>I.frozenAt i
     clear J;go_wp2;refine bodyPost_ret (v:=.agg #[Vs p.bR 8 p.cR,.bool N.z,.bool N.c,.bool N.hz,.bool N.hc,.slice p.aH N.nH p.cH,Vi N.pc,Vi N.st,.slice p.aO N.nO p.cO]) (by simp[results,Tryz.results10,go_sem,o,r,s,u,x,y,A,B,C]) rfl ⟨_,rfl,?_,?_⟩
     ·iterate 9 refine Below.setCell ?_ AY _
      exact ae
     ·rw[Z.out,am.out,af.out]
      refine⟨p,rfl,Mem.mono (base:=Y.heap.size) ?_ AB⟩;iterate 9 refine Mem.setLow ?_ (by simp;omega) _
      exact d.mem
end Go.Proofs.YtkckomianknjdaaGreat
namespace Go.Proofs.YtkckomianknjdaaGreat
open Go.RowKit Go.Deep
variable {O:Int}{F J X q:Nat}{L:Nat->SV}{I:Nat->Value}{u w:World}
theorem Mem.g{l:Nat}{p:Pl}{M:MV}(h:Mem w l p M)(c:BZ w X F I):
 ∃d e,FN w (some ⟨p.bR,0,none⟩) p.cR p.bR 8 M.R p.aH p.cH d M.nH M.Hp (fun i=>some ⟨p.blk i,0,none⟩) p.cap p.aO p.cO e M.nO M.K M.V:=by
 obtain⟨r,n,k,_⟩:=Ie (f:=EH .u64 M.R) h.regs c (fun i a=>DF AB);obtain⟨d,y,o,x⟩:=Ie (f:=CO (place M.Hp p.blk p.cap)) h.heaps c (fun i a=>DF a);obtain⟨e,z,q,_⟩:=Ie (f:=CR M.K M.V) h.obs c (fun i a=>DF a);have s:r=p.bR:=by
  have:=n.some Aa;exact(congrArg Addr.block (Option.some.inj this)).symm
 subst s;rw[Nat.mul_one]at k;refine⟨d,e,k,o,fun i a u=>?_,q,n,y,z,x⟩;obtain⟨b,A,m,_⟩:=Ie (f:=EH .u8 (M.Hp i).dat) (h.data i a) c (fun j B=>DF AB);rw[Nat.mul_one]at m;exact⟨b,A.some u,m⟩
theorem gW(b:BZ w X F I)(R:Nat->Int)(c:Nat->Bj)(d:Nat->Option Addr)(e:Nat->Nat)(K V:Nat->Int):FN w none 0 X 0 R none 0 X 0 c d e none 0 X 0 K V:=by
 have k:∀f,BZ w X 0 f:=fun f=>⟨b.1,b.2.1,fun i a=>absurd a AB⟩
 exact⟨k _,by simpa using k _,fun i a=>absurd a AB,by simpa using k _,.inl ⟨rfl,rfl,rfl⟩,.inl ⟨rfl,rfl,rfl⟩,.inl ⟨rfl,rfl,rfl⟩,BP⟩
theorem ML.form{B:Nat}{m:Md}(h:ML B m u):∃(l:Option Addr)(n:Nat)(b:Option Addr)(a:Nat)(j:Option Addr)(k:Nat),m.vR=.slice l m.rs.length n/\m.vH=.slice b m.hs.length a/\m.vO=.slice j m.os.length k:=by
 obtain⟨l,n,e⟩:=BA h.R;obtain⟨b,a,c⟩:=BA h.H;obtain⟨j,k,d⟩:=BA h.O;exact⟨l,n,b,a,j,k,e,c,d⟩
def mZ:MV:={R:=fun _=>0,z:=false,c:=false,hz:=false,hc:=false,nH:=0,Hp:=fun _=>⟨0,false,none,0,0,fun _=>0⟩,pc:=0,st:=0,nO:=0,K:=fun _=>0,V:=fun _=>0}
structure MP where
 xR:Option Addr
 yR:Nat
 bR:Nat
 xH:Option Addr
 yH:Nat
 bH:Nat
 hA:Nat->Option Addr
 hC:Nat->Nat
 xO:Option Addr
 yO:Nat
 bO:Nat
def MP.G(P:MP)(w:World)(nR:Nat)(M:MV):Prop:=FN w P.xR P.yR P.bR nR M.R P.xH P.yH P.bH M.nH M.Hp P.hA P.hC P.xO P.yO P.bO M.nO M.K M.V
def MP.c(P:MP)(nR:Nat)(M:MV):Array Value:=#[.slice P.xR nR P.yR,.bool M.z,.bool M.c,.bool M.hz,.bool M.hc,.slice P.xH M.nH P.yH,Vi M.pc,Vi M.st,.slice P.xO M.nO P.yO]
def MP.e(P:MP)(ok dn:Bool)(us:Int)(nR:Nat)(M:MV):Array Value:=#[.bool ok,.bool dn,Vi us,.slice P.xR nR P.yR,.bool M.z,.bool M.c,.bool M.hz,.bool M.hc,.slice P.xH M.nH P.yH,Vi M.pc,Vi M.st,.slice P.xO M.nO P.yO]
theorem MP.G.below{P:MP}{j:World}{M:MV}(h:P.G w J M)(b:Below w.heap.size w j):P.G j J M:=FN.below h b BP
def kr(xs:List SV):Nat->SV:=fun i=>xs.getD i Xl
theorem TG(l:Option Addr)(n a:Nat)(w:World)(hn:n<=1048576)(hr:Gx w w.heap.size l n):
 Calls Tryz.prog 4 #[.slice l n a] w fun e x=>∃(g d N:Nat)(L:Nat->SV)(s:Nat)(M:MV)(P:MP)(q:Int),e=.returned (.tuple #[Vs g N d,.agg (P.c s M),Vi q])/\N<=9330/\N<=d/\BZ x g (N*11) (I5 L)/\P.G x s M/\Small s M.nH M.Hp M.nO/\IQ M.R M.nH M.Hp/\Below w.heap.size w x:=by
 refine(QI l n a w hn hr).mono ?_;rintro e w1⟨g,d,b,m,q,rfl,hl,j,⟨D,E,F⟩,h,O⟩;obtain⟨ra,rc,Z,r,oa,oc,y,B,C⟩:=h.form;obtain⟨vR,Y,X,p,o,vH,pc,st,vO,J,k,u⟩:=m;dsimp only at y B C D E F;subst y B C;have A:BZ w1 g (b.length*11) (I5 (kr b)):=⟨(j.lt g rfl).2,fun i=>j.frozenAt i,fun i I=>(j.cellAt i I).trans (PS b Xl i I)⟩
 obtain⟨U,Q,S,hg⟩:=h.g A;exact⟨g,d,b.length,kr b,J.length,{R:=rL J,z:=Y,c:=X,hz:=p,hc:=o,nH:=k.length,Hp:=hL k,pc:=pc,st:=st,nO:=u.length,K:=kL u,V:=vL u},⟨ra,rc,U,Z,r,Q,aL k,cL k,oa,oc,S⟩,q,rfl,hl,NN j,A,hg,h.small D E F,h.range,O⟩
def iJ:Option (MV×Bool×Int)->Bool
 |none=>false
 |some _=>true
def iW:Option (MV×Bool×Int)->Bool
 |none=>false
 |some x=>x.2.1
def fG:Option (MV×Bool×Int)->Int
 |none=>0
 |some x=>x.2.2
def rO:Option (MV×Bool×Int)->Nat
 |none=>0
 |some _=>8
def mO:Option (MV×Bool×Int)->MV
 |none=>mZ
 |some x=>x.1
theorem Ym.lies{l:Nat}{v:Value}{x:Option (MV×Bool×Int)}(h:Ym w l v x)(a:BZ w X F I):∃P:MP,v=.agg (P.e (iJ x) (iW x) (fG x) (rO x) (mO x))/\P.G w (rO x) (mO x):=by
 cases x with
 |none=>exact⟨⟨none,0,X,none,0,X,fun _=>none,fun _=>0,none,0,X⟩,h,gW a _ _ _ _ _ _⟩
 |some x=>
  obtain⟨p,b,c⟩:=h;obtain⟨d,j,g⟩:=c.g a;exact⟨⟨_,_,_,_,_,_,_,_,_,_,_⟩,b,g⟩
structure kS(nR:Nat)(M:MV):Prop where
 r:nR<=1048576
 h:M.nH<=1048576
 o:M.nO<=1048576
 d:∀i,i<M.nH->1<=(M.Hp i).len/\∀j,j<(M.Hp i).len->0<=(M.Hp i).dat j/\(M.Hp i).dat j<=255
theorem ER.fit{n:Nat}{M:MV}{x:Option (MV×Bool×Int)}(h:ER L n J M O x):kS (rO x) (mO x):=by
 cases x with
 |none=>exact⟨Aa,Nat.zero_le _,Nat.zero_le _,fun i a=>absurd a (Nat.not_lt_zero _)⟩
 |some x=>
  obtain⟨c,b,_,g,rfl⟩:=h;have d:=g.seen;have e:=g.u1;have j:=c.2.2.2.2;have k:=g.ok.heaps;refine⟨by show 8<=1048576;decide,?_,?_,fun i a=>⟨(g.ok.heap i a).2.1,g.ok.dat i a⟩⟩
  ·show b.M.nH<=1048576;omega
  ·show b.M.nO<=1048576;omega
structure Dn(L:Nat->SV)(N nR:Nat)(M:MV)(fu:Int)(dn:Bool)(us:Int)(nE:Nat)(ME:MV):Prop where
 run:IZ L N
 r8:nE=8/\nR=8
 fit:∀s:Int,0<=s->s<=100000->IX (FJ L N).length (Ns (FJ L N)) nR M s=some (Mc (FJ L N) s.toNat M)
 fz:0<=fu/\fu<=40000
 uz:0<=us/\us<=40000
 yes:dn=true->∃x,Mc (FJ L N) (2*us+1).toNat M=ME.at x
 no:dn=false->(Mc (FJ L N) fu.toNat M).st=0
theorem ER.dn{n:Nat}{M:MV}{x:Option (MV×Bool×Int)}(h:ER L n J M O x)(k:M.pc=0)(l:iJ x=true):Dn L n J M O (iW x) (fG x) (rO x) (mO x):=by
 cases x with
 |none=>cases l
 |some x=>
  obtain⟨⟨a,c,o,d,e,p⟩,b,j,g,rfl⟩:=h;obtain⟨u0,y,m⟩:=WZ a k j;refine⟨a,⟨rfl,(GY c).1⟩,fun s r u=>?_,⟨d,e⟩,⟨u0,by have:=g.u1;show b.used<=40000;omega⟩,fun q=>y (by simpa using(show(!b.out)=true from q)),fun q=>m (by simpa using(show(!b.out)=false from q))⟩;unfold IX;rw[if_pos];rw[RX a,c];simp[Dm];omega
theorem jC{S a I k E D v6 v7 v8 R va U:Value}{t:TypeId}(h:u.heap[q]?=some (.cells #[S,a,I,k,E,D,v6,v7,v8,R,va,U] t)):(u.cell? (Va q 0)=some S/\u.cell? (Va q 1)=some a/\u.cell? (Va q 2)=some I)/\u.cell? (Va q 3)=some k/\u.cell? (Va q 4)=some E/\u.cell? (Va q 5)=some D/\u.cell? (Va q 6)=some v6/\u.cell? (Va q 7)=some v7/\u.cell? (Va q 8)=some v8/\u.cell? (Va q 9)=some R/\u.cell? (Va q 10)=some va/\u.cell? (Va q 11)=some U:=
 ⟨⟨AJ h 0,AJ h 1,AJ h 2⟩,AJ h 3,AJ h 4,AJ h 5,AJ h 6,AJ h 7,AJ h 8,AJ h 9,AJ h 10,AJ h 11⟩
structure LS(w:World)(g N:Nat)(L:Nat->SV)(q nR:Nat)(M:MV)(P:MP)(u:World):Prop where
 B:Below w.heap.size w u
 A:BZ u g (N*11) (I5 L)
 X:u.heap[q]?=some (.cells (P.c nR M) 28)
 G:P.G u nR M
theorem LS.below{R:World}{g N:Nat}{M:MV}{P:MP}(h:LS w g N L q J M P u)(b:Below u.heap.size u R):LS w g N L q J M P R:=⟨h.B.trans (b.mono h.B.size),h.A.below b h.A.lt,Ba h.X b,h.G.below b⟩
structure EX(q:Nat)(P:MP)(ok dn:Bool)(us:Int)(nR:Nat)(M:MV)(u:World):Prop where
 X:u.heap[q]?=some (.cells (P.e ok dn us nR M) 32)
 G:P.G u nR M
theorem EX.below{P:MP}{N dn:Bool}{M:MV}{R:World}(h:EX q P N dn O J M u)(b:Below u.heap.size u R):EX q P N dn O J M R:=⟨Ba h.X b,h.G.below b⟩
theorem OB(ao:Option Addr)(n ag:Nat)(w:World)(hn:n<=1048576)(hr:Gx w w.heap.size ao n):
 Calls Tryz.prog 3 #[.slice ao n ag] w fun e a=>e=.returned (.bool true)/\Below w.heap.size w a:=by
 have HR:=hxy hr;have q1:¬(1048576:Int)<(n:Int):=AB;clear hr;go_enter Tryz.func3,Tryz.ntmps3;go_wp2_with fail;refine(TG ao n ag w hn HR).mono ?_;rintro e w1⟨g,cg,N,L,C,Y,P,fu,rfl,hN,ak,hL,hG,hS,hI,b1⟩;obtain⟨M,hM⟩:∃M:MV,{Y with pc:=0}=M:=⟨_,rfl⟩
 have G1:Hid (P.G w1 C M):=by rw[<-hM];exact hG
 have A1:=hxy hL;have HS:Hid (Small C M.nH M.Hp M.nO):=by rw[<-hM];exact hS
 have HI:Hid (IQ M.R M.nH M.Hp):=by rw[<-hM];exact hI
 have B1:=hxy b1;have HP:Hid (M.pc=0):=by rw[<-hM];rfl
 clear hG hL hS hI b1 HR;unfold MP.c;go_upto_region 5 with fail;obtain⟨w2,ad,S2⟩:∃y,w1.alloc (.cells #[.slice P.xR C P.yR,.bool Y.z,.bool Y.c,.bool Y.hz,.bool Y.hc,.slice P.xH Y.nH P.yH,Vi 0,Vi Y.st,.slice P.xO Y.nO P.yO] 28)=y/\Hid (LS w g N L w1.heap.size C M P y):=by
  have b:Bw w1 (w1.alloc (.cells (P.c C M) 28)):=Ah;exact⟨w1.alloc (.cells (P.c C M) 28),by rw[<-hM];rfl,⟨B1.trans (b.mono B1.size),A1.below b A1.lt,Bh _ _,G1.below b⟩⟩
 rw[ad];obtain⟨q,hq⟩:=BG w1.heap.size;rw[hq]at S2⊢;clear ad hq hM B1 A1 G1;have c0:=q9 S2.X;have cl:=Bz S2.X;go_wp2_with fail;refine(Pw g N cg L _ _ P.bR C M.R M.z M.c M.hz M.hc _ _ P.bH M.nH M.Hp P.hA P.hC M.pc M.st _ _ P.bO M.nO M.K M.V fu w2 AB ak S2.A HS HI S2.G).mono ?_;rintro e w3⟨v,x,rfl,b3,I,s⟩;have S3:=hxy (S2.below b3);obtain⟨PE,rfl,gE⟩:=s.lies S3.A;have GE:=hxy gE;have ae:=hxy I;clear c0 cl b3 I s gE S2;unfold MP.e;go_upto_region 6 with fail;obtain⟨w4,J⟩:=BG (w3.alloc (.cells (PE.e (iJ x) (iW x) (fG x) (rO x) (mO x)) 32));have b4:Bw w3 w4:=by rw[<-J];exact Ah
 have E4:Hid (EX w3.heap.size PE (iJ x) (iW x) (fG x) (rO x) (mO x) w4):=⟨by rw[<-J];exact Bh _ _,GE.below b4⟩
 have S4:=hxy (S3.below b4);unfold MP.e at J;rw[J];obtain⟨qe,ai⟩:=BG w3.heap.size;rw[ai]at E4⊢;clear J b4 ai GE S3;have c0:=q9 S4.X;have cl:=Bz S4.X;go_wp2_with fail;refine(Pb g N cg L _ _ P.bR C M.R M.z M.c M.hz M.hc _ _ P.bH M.nH M.Hp P.hA P.hC M.pc M.st _ _ P.bO M.nO M.K M.V fu w4 AB S4.A HS HI S4.G).mono ?_;rintro e w5⟨v,x',rfl,b5,I,s⟩;obtain rfl:=ae.det I;have S5:=hxy (S4.below b5);have E5:=hxy (E4.below b5);obtain⟨E,rfl,gE⟩:=s.lies S5.A;have GE:=hxy gE;clear c0 cl b5 s gE S4 E4;unfold MP.e;go_upto_region 7 with fail;obtain⟨w6,O⟩:=BG (w5.alloc (.cells (E.e (iJ x) (iW x) (fG x) (rO x) (mO x)) 32));have b6:Bw w5 w6:=by rw[<-O];exact Ah
 have F:Hid (EX w5.heap.size E (iJ x) (iW x) (fG x) (rO x) (mO x) w6):=⟨by rw[<-O];exact Bh _ _,GE.below b6⟩
 have S6:=hxy (S5.below b6);have Q:=hxy (E5.below b6);have U:=hxy I.fit;have DN:=hxy (I.dn HP);unfold MP.e at O;rw[O];obtain⟨qf,aj⟩:=BG w5.heap.size;rw[aj]at F⊢;clear O b6 aj GE S5 E5 I ae;generalize iJ x=ok at F Q DN⊢;generalize iW x=dn at F Q DN⊢;generalize fG x=Z at F Q DN⊢;generalize rO x=nE at F Q DN U⊢;generalize mO x=l at F Q DN U⊢;have e0:=jC Q.X;have f0:=jC F.X;have el:=Bz Q.X;have fl:=Bz F.X;go_wp2_with fail;refine(LC _ _ E.bR nE l.R l.z l.c l.hz l.hc _ _ E.bH l.nH l.Hp E.hA E.hC l.pc l.st _ _ E.bO l.nO l.K l.V _ _ PE.bR _ _ PE.bH PE.hA PE.hC l.pc _ _ PE.bO w6 U.r U.h U.o U.d F.G Q.G).mono ?_;rintro e w7⟨rfl,b7⟩;have S7:=hxy (S6.below b7);have E7:=hxy (Q.below b7);have F7:=hxy (F.below b7);clear e0 f0 el fl b7 S6 Q F;have e0:=jC E7.X;have el:=Bz E7.X;cases ok with
 |false=>
  go_wp2_with fail;go_ret;exact⟨rfl,S7.B⟩
 |true=>
 have D:Hid (Dn L N C M fu dn Z nE l):=DN.out rfl;go_wp2_with fail;clear e0 el DN;refine(OW g N cg L w7 AB S7.A).mono ?_;rintro e w8⟨v,rfl,o8,b8⟩;obtain⟨I,hl⟩:=QZ D.run;have al:(FJ L N).length<=2000:=by rw[I,List.length_append];show _+1<=_;omega
 have ah:0<(FJ L N).length:=by rw[I,List.length_append];show 0<_+1;omega
 obtain⟨gP,cP,rfl⟩:=GN o8 ah;have A8:Hid (BZ w8 gP ((FJ L N).length*6) (Ia (Ns (FJ L N)))):=⟨(o8.lt gP rfl).2,fun i=>o8.frozenAt i,fun i hi=>(o8.cellAt i AB).trans (Yt _ i hi)⟩
 have ac:=RX D.run;obtain⟨LP,aa⟩:=BG (FJ L N);have af:=hxy aa;rw[aa]at ac ah al A8⊢;have S8:=hxy (S7.below b8);have E8:=hxy (E7.below b8);have F8:=hxy (F7.below b8);clear o8 b8 I hl aa S7 E7 F7;go_wp2_with fail;refine(Qa gP 0 LP.length cP (Ns LP) w8 AB A8.at).mono ?_;rw[ac];rintro e w9⟨rfl,b9⟩;have S9:=hxy (S8.below b9);have E9:=hxy (E8.below b9);have F9:=hxy (F8.below b9);have A9:=hxy (A8.below b9 A8.lt);clear b9 ac S8 E8 F8 A8;have e0:=jC E9.X;have el:=Bz E9.X;have c0:=q9 S9.X;have cl:=Bz S9.X;cases dn with
 |false=>
  go_wp2_with fail;refine(LF gP LP.length cP (Ns LP) _ _ P.bR C M.R M.z M.c M.hz M.hc _ _ P.bH M.nH M.Hp P.hA P.hC M.pc M.st _ _ P.bO M.nO M.K M.V fu w9 AB A9 HS HI S9.G).mono ?_;rintro e wa⟨v,rfl,ba,s⟩;change kJ _ _ _ (IX LP.length (Ns LP) C M fu)at s;have h1:=D.fit fu D.fz.1 (by have:=D.fz;omega);have h2:=D.no rfl;rw[af.out]at h1 h2;rw[h1]at s;obtain⟨p,rfl,_⟩:=s;have BW:=hxy ((S9.below ba).B);generalize Mc LP fu.toNat M=MR at h2;clear h1 c0 cl e0 el ba;unfold Fu;have ff:∀(v0 v1 v2 v3 v4 v5 v6 v7 v8:Value)(w:World),(Instr.field 28 (.agg #[v0,v1,v2,v3,v4,v5,v6,v7,v8]) 7).run Tryz.prog w=.ok v7 w:=fun v0 v1 v2 v3 v4 v5 v6 v7 v8 w=>by kernel_rfl
  go_wp2_with fail;go_ret;exact⟨rfl,BW⟩
 |true=>
 go_upto_region 16 with fail;clear c0 cl e0 el;obtain rfl:nE=8:=D.r8.1;obtain⟨u0,u1⟩:=D.uz;have am:IntKind.i64.wrap (2*Z)=2*Z:=by rw[IntKind.wrap_i64]<;>omega
 have ad:IntKind.i64.wrap (2*Z+1)=2*Z+1:=by rw[IntKind.wrap_i64]<;>omega
 have j:=fun a(h:Bw w9 a)=>q9 (Ba S9.X h)
 have j0:=fun a h=>(j a h).1
 have j1:=fun a h=>(j a h).2.1
 have j2:=fun a h=>(j a h).2.2.1
 have j3:=fun a h=>(j a h).2.2.2.1
 have j4:=fun a h=>(j a h).2.2.2.2.1
 have j5:=fun a h=>(j a h).2.2.2.2.2.1
 have j6:=fun a h=>(j a h).2.2.2.2.2.2.1
 have j7:=fun a h=>(j a h).2.2.2.2.2.2.2.1
 have j8:=fun a h=>(j a h).2.2.2.2.2.2.2.2
 have k:=fun a(h:Bw w9 a)=>jC (Ba F9.X h)
 have kz:=fun a h=>(k a h).1.2.2
 have k0:=fun a h=>(k a h).2.1
 have k1:=fun a h=>(k a h).2.2.1
 have k2:=fun a h=>(k a h).2.2.2.1
 have k3:=fun a h=>(k a h).2.2.2.2.1
 have k4:=fun a h=>(k a h).2.2.2.2.2.1
 have k5:=fun a h=>(k a h).2.2.2.2.2.2.1
 have k6:=fun a h=>(k a h).2.2.2.2.2.2.2.1
 have k7:=fun a h=>(k a h).2.2.2.2.2.2.2.2.1
 have k8:=fun a h=>(k a h).2.2.2.2.2.2.2.2.2
 clear j k;refine wp_region_held_drew (S:=fun a=>Bw w9 a) Ab Al.drew (fun _=>?_);refine lM [0,1,2,3,4,5,7,8] ?_;have u:Bw w9 w9.drew:=Al.drew;generalize w9.drew=t0 at u⊢;refine AO 6 rfl (fun KK hK=>?_);go_simp;refine(LF gP LP.length cP (Ns LP) _ _ P.bR C M.R M.z M.c M.hz M.hc _ _ P.bH M.nH M.Hp P.hA P.hC M.pc M.st _ _ P.bO M.nO M.K M.V (2*Z+1) t0 AB (A9.below u A9.lt) HS HI (S9.below u).G).mono ?_;rintro e ta⟨v,rfl,ba,s⟩;change kJ _ _ _ (IX LP.length (Ns LP) C M (2*Z+1))at s;have h1:=D.fit (2*Z+1) AB AB;obtain⟨x,h2⟩:=D.yes rfl;rw[af.out]at h1 h2;rw[h1,h2]at s;obtain⟨p,rfl,hm⟩:=s;have m:=u.trans (ba.mono u.size);obtain⟨bH,bO,gr⟩:=hm.g (A9.below m A9.lt);have GR:=hxy gr;rw[show Fu p (l.at x)=.agg #[Vs p.bR 8 p.cR,.bool l.z,.bool l.c,.bool l.hz,.bool l.hc,.slice p.aH l.nH p.cH,Vi x,Vi l.st,.slice p.aO l.nO p.cO]from rfl];refine hK.out _ _ m (fun _=>?_);clear hK KK h1 h2 hm gr ba u;refine BV ?_;refine AO 9 rfl (fun KK hK=>?_);go_simp;refine(LC _ _ p.bR 8 l.R l.z l.c l.hz l.hc _ _ bH l.nH l.Hp (fun i=>some ⟨p.blk i,0,none⟩) p.cap x l.st _ _ bO l.nO l.K l.V _ _ E.bR _ _ E.bH E.hA E.hC l.pc _ _ E.bO ta U.r U.h U.o U.d GR (F9.below m).G).mono ?_;rintro e tb⟨rfl,bb⟩;have ab:=m.trans (bb.mono m.size);have BW:=hxy ((S9.below ab).B);refine hK.out _ _ ab (fun _=>?_);clear hK KK bb m;refine BV ?_;refine Ao 10 ?_;refine wpAnyH_done Ab ?_ _;clear j0 j1 j2 j3 j4 j5 j6 j7 j8 kz k0 k1 k2 k3 k4 k5 k6 k7 k8 ab;go_wp2_with fail;go_ret;exact⟨rfl,BW⟩
end Go.Proofs.YtkckomianknjdaaGreat
namespace Go.Proofs.YtkckomianknjdaaGreat
open Go.ChangeShapes Go.WideShapes Go.ChangeAt Go.RowKit Go.Deep
theorem MQ(b:Option Addr)(n a:Nat)(w:World)(h:1048576<n)(c:n<=maxLen):
 Calls Tryz.prog 3 #[.slice b n a] w fun e d=>e=.returned (.bool true)/\Below w.heap.size w d:=by
 unfold maxLen at c;have j:(1048576:Int)<n:=AB;clear h;go_enter Tryz.func3,Tryz.ntmps3;go_wp2;go_ret;exact⟨rfl,Below.refl _ _⟩
theorem jZ:Tryz.prog.cellsOf 5=1:=Ab
theorem Zz{n:Int}(h:(Lit.int .u8 n).wf=true):0<=n/\n<=255:=by
 simpa[Lit.wf,IntKind.min,IntKind.max,IntKind.signed,IntKind.bits]using h
theorem Zl{H:Type}{c:TypeId×Value->H}{w:World}{l:Nat}{L:Nat->Bool}{B:Bool}{q:Nat}{U:Option Addr}{u Y:Nat}{x:DataW H×List MemPlace}
 (h:DataW.trod c Tryz.prog w l L B q 22 [.slice U u Y]=some x):u<=maxLen/\Gx w w.heap.size U u:=by
 obtain⟨A,f,a,d⟩:=open_row Tryz.underlying22 jZ AB h;refine⟨A,?_⟩;rw[Nat.mul_one]at a;rcases a with s|⟨b,e,z,k⟩
 ·exact .inl s
 ·refine .inr ⟨b,e,z,k.lt,fun i m=>?_⟩
  obtain⟨n,y,o⟩:=d i m;simp[List.range,List.range.loop]at o;obtain⟨r,j,_,p⟩:=DataW.trod_int Tryz.underlying5 o;simp at j;exact⟨r,(Zz p).1,(Zz p).2,by rw[k.cell m,j]⟩
theorem Mi(M:Os)(d:M.Started)(H:Type)(a:TypeId×Value->H):
 ReturnsInHanded {} Tryz.checked M 3 .any (Rows.fnLowerSpec.pre6 a Tryz.prog Tryz.f3 Rows.fnLowerRow.domain false) (Rows.fnLowerSpec.post a Tryz.prog Tryz.f3 false true false false):=by
 refine returnsInHanded_of_change (C:=Tryz.checked) (by kernel_rfl:ownKnob Tryz.prog.godebug=none) d Ab Tryz.func3
  (ChangeSpec.witness6 (enc:=a) (C:=Tryz.checked) false ⟨#[],#[.slice none 0 0],[]⟩ 8 Ab Ab Ab Ab) ?_
 intro W o k O gs y c K _ _;have l:∀(j:Nat)t v,Tryz.f3.params[j]?=some t->k[j]?=some v->Value.okWide Tryz.prog W .any o t v:=c;have D:=K;obtain⟨p,q,u,Q,rfl,_,_⟩:=K;have J:DataW.TrodAll a Tryz.prog W 0 (fun _=>true) true Tryz.f3.params.toList k.toList O p:=u;rw[Tryz.params3]at J l;obtain⟨Y,Z,rfl,rfl,I⟩:=trodAll_one J;obtain⟨rfl,rfl⟩:=trodVars_none Q;obtain⟨n,z,b,rfl⟩:=okWide_slice Tryz.underlying22 (l 0 22 Y rfl rfl);have L:=I;have F:∀x∈p,x.block<W.heap.size:=by obtain⟨m,U⟩:=L;exact DataW.trod_lt m _ _ _ U
 obtain⟨B,E⟩:=I;obtain⟨X,N⟩:=Zl (by simpa[Value.cells]using E);clear u c;have s:∀(e:Ending)(A:World),e=.returned (.bool true)/\Bw W A->∃v,e=.returned v/\Rows.fnLowerSpec.post a Tryz.prog Tryz.f3 false true false false W #[.slice n z b] v A:=by
  rintro e A⟨R,r⟩;subst R;exact⟨_,rfl,_,_,_,[],_,[],D,trodAll_mk1 (shut_bool Tryz.underlying4 _),trodAll_mk1 (Below.trod (by kernel_rfl:laidOutB Tryz.prog=true) Ab (of_decide_eq_true Ab) L r F),rfl,r.frame _,fun h=>by cases h⟩
 by_cases S:z<=1048576
 ·exact(OB n z b W S N).mono s
 ·exact(MQ n z b W AB X).mono s
theorem fnLower_holds:Rows.FnLowerSaid:=
 OpenClaim.holds_of_wide 3 Tryz.f3 rfl rfl rfl rfl rfl rfl rfl ⟨rfl,rfl,rfl,rfl,rfl⟩ rfl rfl rfl rfl rfl Ab Tryz.func3 Ab
  (of_decide_eq_true Ab) (by unfold Func.isWrapper;first|(rw[if_pos (by decide+kernel)];kernel_rfl)|(rw[if_neg (by decide+kernel)];exact⟨rfl,rfl⟩))
  (fun c a H b _=>Mi c a H b)
end Go.Proofs.YtkckomianknjdaaGreat
