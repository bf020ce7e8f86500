import Derived.Test.YtlkjdanoejdgbaaGreatCopyMach
import Derived.Test.YtlkjdanoejdgbaaGreatOpTable
import Derived.Test.YtlkjdanoejdgbaaGreatCoreStep3
import Derived.Test.YtlkjdanoejdgbaaGreatOfMachImpl
import Derived.Test.YtlkjdanoejdgbaaGreatOfFlatAny
set_option maxHeartbeats 2000000
set_option maxRecDepth 20000
namespace Go.Proofs.YtlkjdanoejdgbaaGreat
open Go.RowKit
theorem newCore_any(bR nR:Nat)(R:Nat->Int)(z c hz hc:Bool)(bH nH:Nat)(Hp:Nat->HeapV)(blk0:Nat->Nat)(pc st:Int)(bO nO:Nat)(K V:Nat->Int)(w:World)(hnR:nR=8)(hnH:nH<=8)(hnO:nO<=1048576)(hlen:∀i,i<nH->1<=(Hp i).len/\(Hp i).len<=4096)(hm:MachCp w bR nR R bH nH Hp blk0 bO nO K V):
 Calls Tryz.prog 32 #[.agg #[.slice (some ⟨bR,0,none⟩) nR nR,.bool z,.bool c,.bool hz,.bool hc,.slice (some ⟨bH,0,none⟩) nH nH,.int .i64 pc,.int .i64 st,.slice (some ⟨bO,0,none⟩) nO nO]] w fun e w'=>∃bC p tab,
  e=.returned (.pointer (some ⟨bC,0,none⟩))/\Below w.heap.size w w'/\Core w' w.heap.size bC p 0 tab {R:=R,z:=z,c:=c,hz:=hz,hc:=hc,nH:=nH,Hp:=Hp,pc:=pc,st:=st,nO:=nO,K:=K,V:=V}:=by
 subst hnR;have HM:Hid (MachCp w bR 8 R bH nH Hp blk0 bO nO K V):=hm;have HL:Hid (∀i,i<nH->1<=(Hp i).len/\(Hp i).len<=4096):=hlen;clear hm hlen;go_enter Tryz.func32,Tryz.ntmps32;go_wp2_with fail;have b0:Below w.heap.size w (w.alloc (.cells #[.slice (some ⟨bR,0,none⟩) 8 8,.bool z,.bool c,.bool hz,.bool hc,.slice (some ⟨bH,0,none⟩) nH nH,.int .i64 pc,.int .i64 st,.slice (some ⟨bO,0,none⟩) nO nO] 33)):=(Below.refl _ _).alloc (Nat.le_refl _) _;refine(copyMach_any bR 8 R z c hz hc bH nH Hp blk0 pc st bO nO K V _ rfl hnH hnO HL.out (HM.out.below b0 (Nat.le_refl _))).mono ?_;rintro e w1⟨p,rfl,b1,m1⟩;rw[World.size_alloc]at b1 m1;have HB1:Hid (Below w.heap.size w w1):=b0.trans (b1.mono (by omega));have HM1:Hid (Mem w1 (w.heap.size+1) p {R:=R,z:=z,c:=c,hz:=hz,hc:=hc,nH:=nH,Hp:=Hp,pc:=pc,st:=st,nO:=nO,K:=K,V:=V}):=m1;have z1:w.heap.size<w1.heap.size:=by have:=b1.size;simp at this;omega
 clear b0 b1 m1 HM HL;go_wp2_with fail;refine(opTable_any w1).mono ?_;rintro e w2⟨c3,c4,c5,c6,c7,c8,c10,c11,c12,c13,c19,c20,c21,c22,c23,c24,c25,c26,c27,c28,c30,c31,c32,c33,rfl,t2,b2⟩;have HB2:Hid (Below w.heap.size w w2):=HB1.out.trans (b2.mono (by omega));have HM2:Hid (Mem w2 (w.heap.size+1) p {R:=R,z:=z,c:=c,hz:=hz,hc:=hc,nH:=nH,Hp:=Hp,pc:=pc,st:=st,nO:=nO,K:=K,V:=V}):=HM1.out.below b2;have HT2:Hid (Tab w2 w1.heap.size [.nilFunc,.func (.func 84) #[] #[],.func (.func 85) #[] #[],.func (.func 118) #[] c3,.func (.func 118) #[] c4,.func (.func 118) #[] c5,.func (.func 118) #[] c6,.func (.func 118) #[] c7,.func (.func 118) #[] c8,.func (.func 93) #[] #[],.func (.func 121) #[] c10,.func (.func 121) #[] c11,.func (.func 121) #[] c12,.func (.func 121) #[] c13,.func (.func 97) #[] #[],.func (.func 98) #[] #[],.func (.func 99) #[] #[],.func (.func 100) #[] #[],.func (.func 101) #[] #[],.func (.func 124) #[] c19,.func (.func 124) #[] c20,.func (.func 126) #[] c21,.func (.func 126) #[] c22,.func (.func 128) #[] c23,.func (.func 128) #[] c24,.func (.func 126) #[] c25,.func (.func 126) #[] c26,.func (.func 128) #[] c27,.func (.func 128) #[] c28,.func (.func 109) #[] #[],.func (.func 129) #[] c30,.func (.func 129) #[] c31,.func (.func 129) #[] c32,.func (.func 129) #[] c33,.func (.func 111) #[] #[]]):=t2;have z2:w1.heap.size<=w2.heap.size:=b2.size;clear t2 b2 HB1 HM1;go_wp2;go_ret;refine⟨_,p,[.nilFunc,.func (.func 84) #[] #[],.func (.func 85) #[] #[],.func (.func 118) #[] c3,.func (.func 118) #[] c4,.func (.func 118) #[] c5,.func (.func 118) #[] c6,.func (.func 118) #[] c7,.func (.func 118) #[] c8,.func (.func 93) #[] #[],.func (.func 121) #[] c10,.func (.func 121) #[] c11,.func (.func 121) #[] c12,.func (.func 121) #[] c13,.func (.func 97) #[] #[],.func (.func 98) #[] #[],.func (.func 99) #[] #[],.func (.func 100) #[] #[],.func (.func 101) #[] #[],.func (.func 124) #[] c19,.func (.func 124) #[] c20,.func (.func 126) #[] c21,.func (.func 126) #[] c22,.func (.func 128) #[] c23,.func (.func 128) #[] c24,.func (.func 126) #[] c25,.func (.func 126) #[] c26,.func (.func 128) #[] c27,.func (.func 128) #[] c28,.func (.func 109) #[] #[],.func (.func 129) #[] c30,.func (.func 129) #[] c31,.func (.func 129) #[] c32,.func (.func 129) #[] c33,.func (.func 111) #[] #[]],rfl,HB2.out.alloc (by omega) _,(HM2.out.below ((Below.refl _ _).alloc (Nat.le_refl _) _)).mono (by omega),?_,?_⟩
 ·exact World.ownsRow_lit w2 _ 1 (by omega) (by unfold maxLen;omega) rfl
 ·refine⟨rfl,fun op o1 o2=>?_⟩
  obtain⟨v,hv,he⟩:=HT2.out.2 op o1 o2;exact⟨v,hv,(he.below ((Below.refl _ _).alloc (Nat.le_refl _) _)).mono (by omega)⟩
def mVal(p:Pl)(M:MV):Value:=.agg #[.slice (some ⟨p.bR,0,none⟩) 8 p.cR,.bool M.z,.bool M.c,.bool M.hz,.bool M.hc,.slice p.aH M.nH p.cH,.int .i64 M.pc,.int .i64 M.st,.slice p.aO M.nO p.cO]
def zeroV:Value:=.agg #[.slice none 0 0,.bool false,.bool false,.bool false,.bool false,.slice none 0 0,.int .i64 0,.int .i64 0,.slice none 0 0]
def Ans(w:World)(base:Nat)(v:Value):Option MV->Prop
 |none=>v=zeroV
 |some M=>∃p,v=mVal p M/\Mem w base p M
theorem Ans.below{w w':World}{base:Nat}{v:Value}{o:Option MV}(h:Ans w base v o)(hb:Below w.heap.size w w'):Ans w' base v o:=by
 cases o with
 |none=>exact h
 |some M=>obtain⟨p,h1,h2⟩:=h;exact⟨p,h1,h2.below hb⟩
theorem mach_ok{nR:Nat}{R:Nat->Int}{z c hz hc:Bool}{nH:Nat}{Hp:Nat->HeapV}{pc st:Int}{nO:Nat}{K V:Nat->Int}(h:machOK nR z c hz hc nH Hp pc st nO K=true)(hr:InRange R nH Hp):
 MV.Ok {R:=R,z:=z,c:=c,hz:=hz,hc:=hc,nH:=nH,Hp:=Hp,pc:=pc,st:=st,nO:=nO,K:=K,V:=V}:=by
 obtain⟨_,h2,h3,_⟩:=mach_facts h;exact⟨hr.reg,h2,fun i hi=>⟨(hr.base i hi).1,(h3 i hi).1,(h3 i hi).2.1,by have:=(h3 i hi).2.2;show(Hp i).base+((Hp i).len:Int)<=18446744073709551615;omega⟩,hr.dat⟩
end Go.Proofs.YtlkjdanoejdgbaaGreat
