import Derived.Test.YtbahofiiaodpdaaGreatCopyMach
import Derived.Test.YtbahofiiaodpdaaGreatOpTable
import Derived.Test.YtbahofiiaodpdaaGreatCoreStep3
import Derived.Test.YtbahofiiaodpdaaGreatOfMachImpl
import Derived.Test.YtbahofiiaodpdaaGreatOfFlatAny
set_option maxHeartbeats 2000000
set_option maxRecDepth 20000
namespace Go.Proofs.YtbahofiiaodpdaaGreat
open Go.RowKit
theorem newCore_any(xR:Option Addr)(yR bR nR:Nat)(R:Nat->Int)(z c hz hc:Bool)(xH:Option Addr)(yH bH nH:Nat)(Hp:Nat->HeapV)(hA:Nat->Option Addr)(hC:Nat->Nat)(pc st:Int)(xO:Option Addr)(yO bO nO:Nat)(K V:Nat->Int)(w:World)(hnR:nR=8)(hnH:nH<=8)(hnO:nO<=1048576)(hlen:∀i,i<nH->1<=(Hp i).len/\(Hp i).len<=4096)(hm:MachG w xR yR bR nR R xH yH bH nH Hp hA hC xO yO bO nO K V):
 Calls Tryz.prog 40 #[.agg #[.slice xR nR yR,.bool z,.bool c,.bool hz,.bool hc,.slice xH nH yH,.int .i64 pc,.int .i64 st,.slice xO nO yO]] w fun e w'=>∃bC p tab,
  e=.returned (.pointer (some ⟨bC,0,none⟩))/\Below w.heap.size w w'/\Core w' w.heap.size bC p 0 tab {R:=R,z:=z,c:=c,hz:=hz,hc:=hc,nH:=nH,Hp:=Hp,pc:=pc,st:=st,nO:=nO,K:=K,V:=V}:=by
 subst hnR;have HM:Hid (MachG w xR yR bR 8 R xH yH bH nH Hp hA hC xO yO bO nO K V):=hm;have HL:Hid (∀i,i<nH->1<=(Hp i).len/\(Hp i).len<=4096):=hlen;clear hm hlen;go_enter Tryz.func40,Tryz.ntmps40;go_wp2_with fail;have b0:Below w.heap.size w (w.alloc (.cells #[.slice xR 8 yR,.bool z,.bool c,.bool hz,.bool hc,.slice xH nH yH,.int .i64 pc,.int .i64 st,.slice xO nO yO] 40)):=(Below.refl _ _).alloc (Nat.le_refl _) _;refine(copyMach_any xR yR bR 8 R z c hz hc xH yH bH nH Hp hA hC pc st xO yO bO nO K V _ rfl hnH hnO HL.out (HM.out.below b0 (Nat.le_refl _))).mono ?_;rintro e w1⟨p,rfl,b1,m1⟩;rw[World.size_alloc]at b1 m1;have HB1:Hid (Below w.heap.size w w1):=b0.trans (b1.mono (by omega));have HM1:Hid (Mem w1 (w.heap.size+1) p {R:=R,z:=z,c:=c,hz:=hz,hc:=hc,nH:=nH,Hp:=Hp,pc:=pc,st:=st,nO:=nO,K:=K,V:=V}):=m1;have z1:w.heap.size<w1.heap.size:=by have:=b1.size;simp at this;omega
 clear b0 b1 m1 HM HL;go_wp2_with fail;refine(opTable_any w1).mono ?_;rintro e w2⟨c3,c4,c5,c6,c7,c8,c10,c11,c12,c13,c19,c20,c21,c22,c23,c24,c25,c26,c27,c28,c30,c31,c32,c33,rfl,t2,b2⟩;have HB2:Hid (Below w.heap.size w w2):=HB1.out.trans (b2.mono (by omega));have HM2:Hid (Mem w2 (w.heap.size+1) p {R:=R,z:=z,c:=c,hz:=hz,hc:=hc,nH:=nH,Hp:=Hp,pc:=pc,st:=st,nO:=nO,K:=K,V:=V}):=HM1.out.below b2;have HT2:Hid (Tab w2 w1.heap.size [.nilFunc,.func (.func 102) #[] #[],.func (.func 103) #[] #[],.func (.func 134) #[] c3,.func (.func 134) #[] c4,.func (.func 134) #[] c5,.func (.func 134) #[] c6,.func (.func 134) #[] c7,.func (.func 134) #[] c8,.func (.func 111) #[] #[],.func (.func 136) #[] c10,.func (.func 136) #[] c11,.func (.func 136) #[] c12,.func (.func 136) #[] c13,.func (.func 115) #[] #[],.func (.func 116) #[] #[],.func (.func 117) #[] #[],.func (.func 118) #[] #[],.func (.func 119) #[] #[],.func (.func 139) #[] c19,.func (.func 139) #[] c20,.func (.func 141) #[] c21,.func (.func 141) #[] c22,.func (.func 143) #[] c23,.func (.func 143) #[] c24,.func (.func 141) #[] c25,.func (.func 141) #[] c26,.func (.func 143) #[] c27,.func (.func 143) #[] c28,.func (.func 127) #[] #[],.func (.func 144) #[] c30,.func (.func 144) #[] c31,.func (.func 144) #[] c32,.func (.func 144) #[] c33,.func (.func 129) #[] #[]]):=t2;have z2:w1.heap.size<=w2.heap.size:=b2.size;clear t2 b2 HB1 HM1;go_wp2;go_ret;refine⟨_,p,[.nilFunc,.func (.func 102) #[] #[],.func (.func 103) #[] #[],.func (.func 134) #[] c3,.func (.func 134) #[] c4,.func (.func 134) #[] c5,.func (.func 134) #[] c6,.func (.func 134) #[] c7,.func (.func 134) #[] c8,.func (.func 111) #[] #[],.func (.func 136) #[] c10,.func (.func 136) #[] c11,.func (.func 136) #[] c12,.func (.func 136) #[] c13,.func (.func 115) #[] #[],.func (.func 116) #[] #[],.func (.func 117) #[] #[],.func (.func 118) #[] #[],.func (.func 119) #[] #[],.func (.func 139) #[] c19,.func (.func 139) #[] c20,.func (.func 141) #[] c21,.func (.func 141) #[] c22,.func (.func 143) #[] c23,.func (.func 143) #[] c24,.func (.func 141) #[] c25,.func (.func 141) #[] c26,.func (.func 143) #[] c27,.func (.func 143) #[] c28,.func (.func 127) #[] #[],.func (.func 144) #[] c30,.func (.func 144) #[] c31,.func (.func 144) #[] c32,.func (.func 144) #[] c33,.func (.func 129) #[] #[]],rfl,HB2.out.alloc (by omega) _,(HM2.out.below ((Below.refl _ _).alloc (Nat.le_refl _) _)).mono (by omega),?_,?_⟩
 ·exact World.ownsRow_lit w2 _ 1 (by omega) (by unfold maxLen;omega) rfl
 ·refine⟨rfl,fun op o1 o2=>?_⟩
  obtain⟨v,hv,he⟩:=HT2.out.2 op o1 o2;exact⟨v,hv,(he.below ((Below.refl _ _).alloc (Nat.le_refl _) _)).mono (by omega)⟩
def mVal(p:Pl)(M:MV):Value:=.agg #[.slice (some ⟨p.bR,0,none⟩) 8 p.cR,.bool M.z,.bool M.c,.bool M.hz,.bool M.hc,.slice p.aH M.nH p.cH,.int .i64 M.pc,.int .i64 M.st,.slice p.aO M.nO p.cO]
def zeroV:Value:=.agg #[.slice none 0 0,.bool false,.bool false,.bool false,.bool false,.slice none 0 0,.int .i64 0,.int .i64 0,.slice none 0 0]
def Ans(w:World)(base:Nat)(v:Value):Option MV->Prop
 |none=>v=zeroV
 |some M=>∃p,v=mVal p M/\Mem w base p M
theorem Ans.below{w w':World}{base:Nat}{v:Value}{o:Option MV}(h:Ans w base v o)(hb:Below w.heap.size w w'):Ans w' base v o:=by
 cases o with
 |none=>exact h
 |some M=>obtain⟨p,h1,h2⟩:=h;exact⟨p,h1,h2.below hb⟩
def stepA(len:Nat)(F:Nat->Nat->Int)(nR:Nat)(M:MV):Option MV:=
 if flatOK len F&&machOK nR M.z M.c M.hz M.hc M.nH M.Hp M.pc M.st M.nO M.K then some (if M.st=0 then stepM len F M else M)else none
theorem mach_ok{nR:Nat}{R:Nat->Int}{z c hz hc:Bool}{nH:Nat}{Hp:Nat->HeapV}{pc st:Int}{nO:Nat}{K V:Nat->Int}(h:machOK nR z c hz hc nH Hp pc st nO K=true)(hr:InRange R nH Hp):
 MV.Ok {R:=R,z:=z,c:=c,hz:=hz,hc:=hc,nH:=nH,Hp:=Hp,pc:=pc,st:=st,nO:=nO,K:=K,V:=V}:=by
 obtain⟨_,h2,h3,_⟩:=mach_facts h;exact⟨hr.reg,h2,fun i hi=>⟨(hr.base i hi).1,(h3 i hi).1,(h3 i hi).2.1,by have:=(h3 i hi).2.2;show(Hp i).base+((Hp i).len:Int)<=18446744073709551615;omega⟩,hr.dat⟩
theorem implStep_any(bP len cP:Nat)(F:Nat->Nat->Int)(xR:Option Addr)(yR bR nR:Nat)(R:Nat->Int)(z c hz hc:Bool)(xH:Option Addr)(yH bH nH:Nat)(Hp:Nat->HeapV)(hA:Nat->Option Addr)(hC:Nat->Nat)(pc st:Int)(xO:Option Addr)(yO bO nO:Nat)(K V:Nat->Int)(w:World)
 (hlen:len<=1048576)(hat:Arr w bP (len*6) (insF F))(hs:Small nR nH Hp nO)(hr:InRange R nH Hp)(hm:MachG w xR yR bR nR R xH yH bH nH Hp hA hC xO yO bO nO K V):
 Calls Tryz.prog 9 #[.slice (some ⟨bP,0,none⟩) len cP,.agg #[.slice xR nR yR,.bool z,.bool c,.bool hz,.bool hc,.slice xH nH yH,.int .i64 pc,.int .i64 st,.slice xO nO yO]] w fun e w'=>∃v,
  e=.returned v/\Below w.heap.size w w'/\Ans w' w.heap.size v (stepA len F nR {R:=R,z:=z,c:=c,hz:=hz,hc:=hc,nH:=nH,Hp:=Hp,pc:=pc,st:=st,nO:=nO,K:=K,V:=V}):=by
 have HA:Hid (Arr w bP (len*6) (insF F)):=hat;have HS:Hid (Small nR nH Hp nO):=hs;have HR:Hid (InRange R nH Hp):=hr;have HM:Hid (MachG w xR yR bR nR R xH yH bH nH Hp hA hC xO yO bO nO K V):=hm;clear hat hs hr hm;go_enter Tryz.func9,Tryz.ntmps9;go_wp2_with fail;generalize hw0:(w.alloc (.cells #[.slice xR nR yR,.bool z,.bool c,.bool hz,.bool hc,.slice xH nH yH,.int .i64 pc,.int .i64 st,.slice xO nO yO] 40)).alloc (.cells #[.slice none 0 0,.bool false,.bool false,.bool false,.bool false,.slice none 0 0,.int .i64 0,.int .i64 0,.slice none 0 0] 40)=w0;have b0:Below w.heap.size w w0:=by rw[<-hw0];exact((Below.refl _ _).alloc (Nat.le_refl _) _).alloc (by simp) _
 have z0:w0.heap.size=w.heap.size+2:=by rw[<-hw0];simp
 have HX0:Hid (w0.ownsRow w.heap.size 40 9 (.slice (some ⟨w.heap.size,0,none⟩) 1 1) 1 [.slice xR nR yR,.bool z,.bool c,.bool hz,.bool hc,.slice xH nH yH,.int .i64 pc,.int .i64 st,.slice xO nO yO]):=by rw[<-hw0];exact(World.ownsRow_lit w #[.slice xR nR yR,.bool z,.bool c,.bool hz,.bool hc,.slice xH nH yH,.int .i64 pc,.int .i64 st,.slice xO nO yO] 1 (Nat.le_refl _) (by unfold maxLen;omega) rfl).alloc _
 have HZ0:Hid (w0.ownsRow w.heap.size 40 9 (.slice (some ⟨w.heap.size+1,0,none⟩) 1 1) 1 [.slice none 0 0,.bool false,.bool false,.bool false,.bool false,.slice none 0 0,.int .i64 0,.int .i64 0,.slice none 0 0]):=by
  rw[<-hw0];have:=World.ownsRow_lit (base:=w.heap.size) (e:=40) (size:=9) (w.alloc (.cells #[.slice xR nR yR,.bool z,.bool c,.bool hz,.bool hc,.slice xH nH yH,.int .i64 pc,.int .i64 st,.slice xO nO yO] 40)) #[.slice none 0 0,.bool false,.bool false,.bool false,.bool false,.slice none 0 0,.int .i64 0,.int .i64 0,.slice none 0 0] 1 (by simp) (by unfold maxLen;omega) rfl;rw[World.size_alloc]at this;exact this
 refine(implFlat_any bP 0 len cP F w0 hlen (HA.out.below b0 HA.out.lt).at).mono ?_;rintro e w1⟨rfl,b1⟩;have HX1:Hid (w1.ownsRow w.heap.size 40 9 (.slice (some ⟨w.heap.size,0,none⟩) 1 1) 1 [.slice xR nR yR,.bool z,.bool c,.bool hz,.bool hc,.slice xH nH yH,.int .i64 pc,.int .i64 st,.slice xO nO yO]):=row_below HX0.out b1;have HZ1:Hid (w1.ownsRow w.heap.size 40 9 (.slice (some ⟨w.heap.size+1,0,none⟩) 1 1) 1 [.slice none 0 0,.bool false,.bool false,.bool false,.bool false,.slice none 0 0,.int .i64 0,.int .i64 0,.slice none 0 0]):=row_below HZ0.out b1;have HB1:Hid (Below w.heap.size w w1):=b0.trans (b1.mono (by omega));have z1:w.heap.size+2<=w1.heap.size:=by have:=b1.size;omega
 have y1:w.heap.size+1<w1.heap.size:=by omega
 have y0:w.heap.size<w1.heap.size:=by omega
 clear b0 b1 HX0 HZ0 hw0;cases hf:flatOK len F with
 |false=>
  obtain⟨s0,s1,s2,s3,s4,s5,s6,s7,s8⟩:=cells9 HZ1.out;have sf:∀i,w1.frozen? ⟨w.heap.size+1,i,none⟩=false:=fun i=>HZ1.out.frozenAt i
  go_wp2;refine bodyPost_ret (v:=.agg #[.slice none 0 0,.bool false,.bool false,.bool false,.bool false,.slice none 0 0,.int .i64 0,.int .i64 0,.slice none 0 0]) (by simp[results,Tryz.results9,go_sem,s0,s1,s2,s3,s4,s5,s6,s7,s8]) rfl ⟨_,rfl,?_,?_⟩
  ·iterate 9 refine Below.setCell ?_ (by simp) _
   exact HB1.out
  ·have e1:stepA len F nR {R:=R,z:=z,c:=c,hz:=hz,hc:=hc,nH:=nH,Hp:=Hp,pc:=pc,st:=st,nO:=nO,K:=K,V:=V}=none:=by unfold stepA;rw[hf];rfl
   rw[e1];rfl
 |true=>
  obtain⟨q0,q1,q2,q3,q4,q5,q6,q7,q8⟩:=cells9 HX1.out;have HF:Hid (flatOK len F=true):=hf;clear hf;go_wp2_with fail;refine(implMach_any xR yR bR nR R z c hz hc xH yH bH nH Hp hA hC pc st xO yO bO nO K V w1 HS.out (fun i hi=>(HR.out.base i hi).1) (HM.out.below HB1.out (Nat.le_refl _))).mono ?_;rintro e w2⟨rfl,b2⟩;have HX2:Hid (w2.ownsRow w.heap.size 40 9 (.slice (some ⟨w.heap.size,0,none⟩) 1 1) 1 [.slice xR nR yR,.bool z,.bool c,.bool hz,.bool hc,.slice xH nH yH,.int .i64 pc,.int .i64 st,.slice xO nO yO]):=row_below HX1.out b2;have HZ2:Hid (w2.ownsRow w.heap.size 40 9 (.slice (some ⟨w.heap.size+1,0,none⟩) 1 1) 1 [.slice none 0 0,.bool false,.bool false,.bool false,.bool false,.slice none 0 0,.int .i64 0,.int .i64 0,.slice none 0 0]):=row_below HZ1.out b2;have HB2:Hid (Below w.heap.size w w2):=HB1.out.trans (b2.mono (by omega));have z2:w.heap.size+2<=w2.heap.size:=by have:=b2.size;omega
  have y1:w.heap.size+1<w2.heap.size:=by omega
  have y0:w.heap.size<w2.heap.size:=by omega
  clear b2 HX1 HZ1 HB1 q0 q1 q2 q3 q4 q5 q6 q7 q8;cases hmo:machOK nR z c hz hc nH Hp pc st nO K with
  |false=>
   obtain⟨s0,s1,s2,s3,s4,s5,s6,s7,s8⟩:=cells9 HZ2.out;have sf:∀i,w2.frozen? ⟨w.heap.size+1,i,none⟩=false:=fun i=>HZ2.out.frozenAt i
   go_wp2;refine bodyPost_ret (v:=.agg #[.slice none 0 0,.bool false,.bool false,.bool false,.bool false,.slice none 0 0,.int .i64 0,.int .i64 0,.slice none 0 0]) (by simp[results,Tryz.results9,go_sem,s0,s1,s2,s3,s4,s5,s6,s7,s8]) rfl ⟨_,rfl,?_,?_⟩
   ·iterate 9 refine Below.setCell ?_ (by simp) _
    exact HB2.out
   ·have e1:stepA len F nR {R:=R,z:=z,c:=c,hz:=hz,hc:=hc,nH:=nH,Hp:=Hp,pc:=pc,st:=st,nO:=nO,K:=K,V:=V}=none:=by unfold stepA;rw[HF.out,hmo];rfl
    rw[e1];rfl
  |true=>
   obtain⟨rfl,hnH,hlh,hpc,hnO⟩:=mach_facts hmo;have OK:=mach_ok (V:=V) hmo HR.out;have HOK:Hid _:=OK;have HMO:Hid (machOK 8 z c hz hc nH Hp pc st nO K=true):=hmo;have HLH:Hid (∀i,i<nH->1<=(Hp i).len/\(Hp i).len<=4096/\(Hp i).base<=18446744073709551615-((Hp i).len:Int)):=hlh;clear OK hmo hlh;obtain⟨q0,q1,q2,q3,q4,q5,q6,q7,q8⟩:=cells9 HX2.out;go_wp2_with fail;refine(newCore_any xR yR bR 8 R z c hz hc xH yH bH nH Hp hA hC pc st xO yO bO nO K V w2 rfl hnH (by omega) (fun i hi=>⟨(HLH.out i hi).1,(HLH.out i hi).2.1⟩) (HM.out.below HB2.out (Nat.le_refl _))).mono ?_;rintro e w3⟨bC,p,tab,rfl,b3,C3⟩;have HZ3:Hid (w3.ownsRow w.heap.size 40 9 (.slice (some ⟨w.heap.size+1,0,none⟩) 1 1) 1 [.slice none 0 0,.bool false,.bool false,.bool false,.bool false,.slice none 0 0,.int .i64 0,.int .i64 0,.slice none 0 0]):=row_below HZ2.out b3;have HB3:Hid (Below w.heap.size w w3):=HB2.out.trans (b3.mono (by omega));have z3:w2.heap.size<=w3.heap.size:=b3.size;have y1:w.heap.size+1<w3.heap.size:=by omega
   have hC:=C3.lt.2;have hC2:=C3.lt.1;have c7:w3.cell? ⟨bC,7,none⟩=some (.int .i64 st):=C3.c7;have H3:Hid (Core w3 w2.heap.size bC p 0 tab {R:=R,z:=z,c:=c,hz:=hz,hc:=hc,nH:=nH,Hp:=Hp,pc:=pc,st:=st,nO:=nO,K:=K,V:=V}):=C3;clear b3 HX2 HZ2 q0 q1 q2 q3 q4 q5 q6 q7 q8;by_cases hst:st=0
   ·subst hst
    clear C3;go_wp2_with fail;refine(step_any H3.out HOK.out (by show nO<=1048576;omega) hpc bP 0 len cP F ((HA.out.below HB3.out HA.out.lt).at) HF.out).mono ?_;rintro e w4⟨rfl,b4,p',nx',C4⟩;have hans:stepA len F 8 {R:=R,z:=z,c:=c,hz:=hz,hc:=hc,nH:=nH,Hp:=Hp,pc:=pc,st:=0,nO:=nO,K:=K,V:=V}=some (stepM len F {R:=R,z:=z,c:=c,hz:=hz,hc:=hc,nH:=nH,Hp:=Hp,pc:=pc,st:=0,nO:=nO,K:=K,V:=V}):=by
     unfold stepA;rw[HF.out,HMO.out];rfl
    generalize stepM len F {R:=R,z:=z,c:=c,hz:=hz,hc:=hc,nH:=nH,Hp:=Hp,pc:=pc,st:=0,nO:=nO,K:=K,V:=V}=M' at C4 hans;have HANS:Hid (stepA len F 8 {R:=R,z:=z,c:=c,hz:=hz,hc:=hc,nH:=nH,Hp:=Hp,pc:=pc,st:=0,nO:=nO,K:=K,V:=V}=some M'):=hans;have HZ4:Hid (w4.ownsRow w.heap.size 40 9 (.slice (some ⟨w.heap.size+1,0,none⟩) 1 1) 1 [.slice none 0 0,.bool false,.bool false,.bool false,.bool false,.slice none 0 0,.int .i64 0,.int .i64 0,.slice none 0 0]):=row_low HZ3.out (by simp[Value.ownBlock];omega) b4;have HB4:Hid (Below w.heap.size w w4):=HB3.out.trans (b4.mono (by omega));have y4:w.heap.size+1<w4.heap.size:=Nat.lt_of_lt_of_le y1 b4.size;have hC4:=C4.lt.2;have hne:bC≠w.heap.size+1:=by omega
    have d0:w4.cell? ⟨bC,0,none⟩=some (.slice (some ⟨p'.bR,0,none⟩) 8 p'.cR):=C4.c0;have d1:w4.cell? ⟨bC,1,none⟩=some (.bool M'.z):=C4.c1;have d2:w4.cell? ⟨bC,2,none⟩=some (.bool M'.c):=C4.c2;have d3:w4.cell? ⟨bC,3,none⟩=some (.bool M'.hz):=C4.c3;have d4:w4.cell? ⟨bC,4,none⟩=some (.bool M'.hc):=C4.c4;have d5:w4.cell? ⟨bC,5,none⟩=some (.slice p'.aH M'.nH p'.cH):=C4.c5;have d6:w4.cell? ⟨bC,6,none⟩=some (.int .i64 M'.pc):=C4.c6;have d7:w4.cell? ⟨bC,7,none⟩=some (.int .i64 M'.st):=C4.c7;have d8:w4.cell? ⟨bC,8,none⟩=some (.slice p'.aO M'.nO p'.cO):=C4.c8;have H4:Hid (Core w4 w2.heap.size bC p' nx' tab M'):=C4;clear C4 b4 hans c7 H3 HOK;obtain⟨s0,s1,s2,s3,s4,s5,s6,s7,s8⟩:=cells9 HZ4.out;have sf:∀i,w4.frozen? ⟨w.heap.size+1,i,none⟩=false:=fun i=>HZ4.out.frozenAt i
    go_wp2;refine bodyPost_ret (v:=.agg #[.slice (some ⟨p'.bR,0,none⟩) 8 p'.cR,.bool M'.z,.bool M'.c,.bool M'.hz,.bool M'.hc,.slice p'.aH M'.nH p'.cH,.int .i64 M'.pc,.int .i64 M'.st,.slice p'.aO M'.nO p'.cO]) (by simp[results,Tryz.results9,go_sem,s0,s1,s2,s3,s4,s5,s6,s7,s8]) rfl ⟨_,rfl,?_,?_⟩
    ·iterate 9 refine Below.setCell ?_ (by simp) _
     exact HB4.out
    ·rw[HANS.out]
     refine⟨p',rfl,Mem.mono (base:=w2.heap.size) ?_ (by omega)⟩;iterate 9 refine Mem.setLow ?_ (by simp;omega) _
     exact H4.out.mem
   ·clear C3
    have d0:w3.cell? ⟨bC,0,none⟩=some (.slice (some ⟨p.bR,0,none⟩) 8 p.cR):=H3.out.c0;have d1:w3.cell? ⟨bC,1,none⟩=some (.bool z):=H3.out.c1;have d2:w3.cell? ⟨bC,2,none⟩=some (.bool c):=H3.out.c2;have d3:w3.cell? ⟨bC,3,none⟩=some (.bool hz):=H3.out.c3;have d4:w3.cell? ⟨bC,4,none⟩=some (.bool hc):=H3.out.c4;have d5:w3.cell? ⟨bC,5,none⟩=some (.slice p.aH nH p.cH):=H3.out.c5;have d6:w3.cell? ⟨bC,6,none⟩=some (.int .i64 pc):=H3.out.c6;have d7:w3.cell? ⟨bC,7,none⟩=some (.int .i64 st):=H3.out.c7;have d8:w3.cell? ⟨bC,8,none⟩=some (.slice p.aO nO p.cO):=H3.out.c8;obtain⟨s0,s1,s2,s3,s4,s5,s6,s7,s8⟩:=cells9 HZ3.out;have sf:∀i,w3.frozen? ⟨w.heap.size+1,i,none⟩=false:=fun i=>HZ3.out.frozenAt i
    go_wp2;refine bodyPost_ret (v:=.agg #[.slice (some ⟨p.bR,0,none⟩) 8 p.cR,.bool z,.bool c,.bool hz,.bool hc,.slice p.aH nH p.cH,.int .i64 pc,.int .i64 st,.slice p.aO nO p.cO]) (by simp[results,Tryz.results9,go_sem,s0,s1,s2,s3,s4,s5,s6,s7,s8]) rfl ⟨_,rfl,?_,?_⟩
    ·iterate 9 refine Below.setCell ?_ (by simp) _
     exact HB3.out
    ·have e1:stepA len F 8 {R:=R,z:=z,c:=c,hz:=hz,hc:=hc,nH:=nH,Hp:=Hp,pc:=pc,st:=st,nO:=nO,K:=K,V:=V}=some {R:=R,z:=z,c:=c,hz:=hz,hc:=hc,nH:=nH,Hp:=Hp,pc:=pc,st:=st,nO:=nO,K:=K,V:=V}:=by unfold stepA;rw[HF.out,HMO.out];simp[hst]
     rw[e1];refine⟨p,rfl,Mem.mono (base:=w2.heap.size) ?_ (by omega)⟩;iterate 9 refine Mem.setLow ?_ (by simp;omega) _
     exact H3.out.mem
end Go.Proofs.YtbahofiiaodpdaaGreat
