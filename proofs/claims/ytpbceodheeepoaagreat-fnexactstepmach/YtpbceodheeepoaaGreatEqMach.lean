import Derived.Test.YtpbceodheeepoaaGreatOfMachCopy2
import Derived.Test.YtpbceodheeepoaaGreatOfStepImpl
set_option maxHeartbeats 1000000
namespace Go.Proofs.YtpbceodheeepoaaGreat
open Go.RowKit
theorem eqUint64S_nil(ao ao':Option Addr)(cap cap':Nat)(w:World):Calls Tryz.prog 47 #[.slice ao 0 cap,.slice ao' 0 cap'] w fun e w'=>e=.returned (.bool true)/\Below w.heap.size w w':=by
 go_enter Tryz.func47,Tryz.ntmps47;go_wp2;go_loopw [5](fun i wr=>i=.int .i64 0/\Below w.heap.size w wr)(fun _ _=>0)
 case atStart=>exact⟨rfl,Below.refl _ _⟩
 case round=>
  obtain⟨rfl,hbr⟩:=hrel;go_wp2;go_ret;exact⟨rfl,hbr⟩
theorem eqUint64S_in(ao ao':Option Addr)(n cap cap':Nat)(R:Nat->Int)(w:World)(hn:n<=1048576)(h:InRow w ao (n) (numF .u64 R))(h':InRow w ao' (n) (numF .u64 R)):Calls Tryz.prog 47 #[.slice ao n cap,.slice ao' n cap'] w fun e w'=>e=.returned (.bool true)/\Below w.heap.size w w':=by
 by_cases h0:n=0
 ·subst h0;exact eqUint64S_nil ao ao' cap cap' w
 ·rcases h with h|⟨b,off,rfl,h⟩
  ·omega
  ·rcases h' with h'|⟨b',off',rfl,h'⟩
   ·omega
   ·exact eqUint64S_same b off n cap b' off' cap' R w hn h h'
theorem eqByteS_nil(ao ao':Option Addr)(cap cap':Nat)(w:World):Calls Tryz.prog 130 #[.slice ao 0 cap,.slice ao' 0 cap'] w fun e w'=>e=.returned (.bool true)/\Below w.heap.size w w':=by
 go_enter Tryz.func130,Tryz.ntmps130;go_wp2;go_loopw [5](fun i wr=>i=.int .i64 0/\Below w.heap.size w wr)(fun _ _=>0)
 case atStart=>exact⟨rfl,Below.refl _ _⟩
 case round=>
  obtain⟨rfl,hbr⟩:=hrel;go_wp2;go_ret;exact⟨rfl,hbr⟩
theorem eqByteS_in(ao ao':Option Addr)(n cap cap':Nat)(R:Nat->Int)(w:World)(hn:n<=1048576)(h:InRow w ao (n) (numF .u8 R))(h':InRow w ao' (n) (numF .u8 R)):Calls Tryz.prog 130 #[.slice ao n cap,.slice ao' n cap'] w fun e w'=>e=.returned (.bool true)/\Below w.heap.size w w':=by
 by_cases h0:n=0
 ·subst h0;exact eqByteS_nil ao ao' cap cap' w
 ·rcases h with h|⟨b,off,rfl,h⟩
  ·omega
  ·rcases h' with h'|⟨b',off',rfl,h'⟩
   ·omega
   ·exact eqByteS_same b off n cap b' off' cap' R w hn h h'
theorem eqObsS_nil(ao ao':Option Addr)(cap cap':Nat)(w:World):Calls Tryz.prog 49 #[.slice ao 0 cap,.slice ao' 0 cap'] w fun e w'=>e=.returned (.bool true)/\Below w.heap.size w w':=by
 go_enter Tryz.func49,Tryz.ntmps49;go_wp2;go_loopw [5](fun i wr=>i=.int .i64 0/\Below w.heap.size w wr)(fun _ _=>0)
 case atStart=>exact⟨rfl,Below.refl _ _⟩
 case round=>
  obtain⟨rfl,hbr⟩:=hrel;go_wp2;go_ret;exact⟨rfl,hbr⟩
theorem eqObsS_in(ao ao':Option Addr)(n cap cap':Nat)(K V:Nat->Int)(w:World)(hn:n<=1048576)(h:InRow w ao (n*2) (obsF K V))(h':InRow w ao' (n*2) (obsF K V)):Calls Tryz.prog 49 #[.slice ao n cap,.slice ao' n cap'] w fun e w'=>e=.returned (.bool true)/\Below w.heap.size w w':=by
 by_cases h0:n=0
 ·subst h0;exact eqObsS_nil ao ao' cap cap' w
 ·rcases h with h|⟨b,off,rfl,h⟩
  ·omega
  ·rcases h' with h'|⟨b',off',rfl,h'⟩
   ·omega
   ·exact eqObsS_same b off n cap b' off' cap' K V w hn h h'
structure RdH(w:World)(ao:Option Addr)(n:Nat)(Hp Hq:Nat->HeapV):Prop where
 row:InRow w ao (n*3) (heapF Hq)
 same:∀i,i<n->(Hq i).base=(Hp i).base/\(Hq i).wr=(Hp i).wr/\(Hq i).len=(Hp i).len
 dat:∀i,i<n->InRow w (Hq i).ao (Hp i).len (numF .u8 (Hp i).dat)
theorem RdH.below{w w':World}{B:Nat}{ao:Option Addr}{n:Nat}{Hp Hq:Nat->HeapV}(h:RdH w ao n Hp Hq)(hb:Below B w w')(hB:w.heap.size<=B):RdH w' ao n Hp Hq:=
 ⟨h.row.below hb hB,h.same,fun i hi=>(h.dat i hi).below hb hB⟩
theorem eqHeap_in(base:Int)(wr:Bool)(ao ao':Option Addr)(len cap cap':Nat)(dat:Nat->Int)(w:World)(hlen:len<=1048576)(hat:InRow w ao len (numF .u8 dat))(hat':InRow w ao' len (numF .u8 dat)):
 Calls Tryz.prog 80 #[.agg #[.int .u64 base,.bool wr,.slice ao len cap],.agg #[.int .u64 base,.bool wr,.slice ao' len cap']] w fun e w'=>e=.returned (.bool true)/\Below w.heap.size w w':=by
 have HA:Hid (InRow w ao len (numF .u8 dat)):=hat;have HA':Hid (InRow w ao' len (numF .u8 dat)):=hat';have hwr:(wr !=wr)=false:=by simp
 clear hat hat';go_enter Tryz.func80,Tryz.ntmps80;go_wp2_with fail;refine(eqByteS_in _ _ _ _ _ dat _ hlen ?h1 ?h2).mono ?_
 case h1=>exact HA.out.below (((Below.refl _ _).alloc (Nat.le_refl _) _).alloc (by simp) _) (Nat.le_refl _)
 case h2=>exact HA'.out.below (((Below.refl _ _).alloc (Nat.le_refl _) _).alloc (by simp) _) (Nat.le_refl _)
 rintro e w1⟨rfl,hb1⟩;go_wp2;go_ret;exact⟨rfl,(((Below.refl _ _).alloc (Nat.le_refl _) _).alloc (by simp) _).trans (hb1.mono (by simp;omega))⟩
theorem eqHeapS_nil(ao ao':Option Addr)(cap cap':Nat)(w:World):Calls Tryz.prog 48 #[.slice ao 0 cap,.slice ao' 0 cap'] w fun e w'=>e=.returned (.bool true)/\Below w.heap.size w w':=by
 go_enter Tryz.func48,Tryz.ntmps48;go_wp2;go_loopw [5](fun i wr=>i=.int .i64 0/\Below w.heap.size w wr)(fun _ _=>0)
 case atStart=>exact⟨rfl,Below.refl _ _⟩
 case round=>
  obtain⟨rfl,hbr⟩:=hrel;go_wp2;go_ret;exact⟨rfl,hbr⟩
theorem heap_cell{w:World}{b off n:Nat}{Hp Hq:Nat->HeapV}(h:At w b off (n*3) (heapF Hq))(hs:∀i,i<n->(Hq i).base=(Hp i).base/\(Hq i).wr=(Hp i).wr/\(Hq i).len=(Hp i).len){k:Nat}(hk:k<n):
 w.cell? ⟨b,off+k*3,none⟩=some (.int .u64 (Hp k).base)/\w.cell? ⟨b,off+k*3+1,none⟩=some (.bool (Hp k).wr)/\w.cell? ⟨b,off+k*3+2,none⟩=some (.slice (Hq k).ao (Hp k).len (Hq k).cap):=by
 obtain⟨s1,s2,s3⟩:=hs k hk;refine⟨?_,?_,?_⟩
 ·have:=h.cell (i:=k*3+0) (by omega)
  rw[heapF_0,s1,Nat.add_zero]at this;exact this
 ·have:=h.cell (i:=k*3+1) (by omega)
  rw[heapF_1,s2,<-Nat.add_assoc]at this;exact this
 ·have:=h.cell (i:=k*3+2) (by omega)
  rw[heapF_2,s3,<-Nat.add_assoc]at this;exact this
theorem eqHeapS_at(b off b' off' n cap cap':Nat)(Hp Hq Hq':Nat->HeapV)(w:World)(hn:n<=1048576)(hlen:∀i,i<n->(Hp i).len<=1048576)(hat:At w b off (n*3) (heapF Hq))(hat':At w b' off' (n*3) (heapF Hq'))(hc:RdH w (some ⟨b,off,none⟩) n Hp Hq)(hc':RdH w (some ⟨b',off',none⟩) n Hp Hq'):
 Calls Tryz.prog 48 #[.slice (some ⟨b,off,none⟩) n cap,.slice (some ⟨b',off',none⟩) n cap'] w fun e w'=>e=.returned (.bool true)/\Below w.heap.size w w':=by
 have hb:=hat.lt;have hb':=hat'.lt;have H1:Hid (At w b off (n*3) (heapF Hq)):=hat;have H2:Hid (At w b' off' (n*3) (heapF Hq')):=hat';have HA:Hid (RdH w (some ⟨b,off,none⟩) n Hp Hq):=hc;have HA':Hid (RdH w (some ⟨b',off',none⟩) n Hp Hq'):=hc';have HL:Hid (∀i,i<n->(Hp i).len<=1048576):=hlen;clear hc hc' hlen hat hat';go_enter Tryz.func48,Tryz.ntmps48;go_wp2;go_loopw [5](fun i wr=>∃k:Nat,k<=n/\i=.int .i64 k/\Below w.heap.size w wr)(fun i _=>n-(intOf i).toNat)
 case atStart=>exact⟨0,Nat.zero_le _,rfl,Below.refl _ _⟩
 case round=>
  obtain⟨k,hk,rfl,hbr⟩:=hrel;by_cases hlt:k<n
  ·obtain⟨g0,g1,g2⟩:=heap_cell (H1.out.below hbr hb) HA.out.same hlt
   obtain⟨q0,q1,q2⟩:=heap_cell (H2.out.below hbr hb') HA'.out.same hlt;have hlt':(k:Int)<(n:Int):=by omega
   go_wp2_with fail;go_region_with(go_at_call 80;refine(eqHeap_in _ _ _ _ _ _ _ (Hp k).dat _ (HL.out k hlt) ((HA.out.dat k hlt).below hbr.drew (Nat.le_refl _)) ((HA'.out.dat k hlt).below hbr.drew (Nat.le_refl _))).mono ?_;rintro e w'⟨rfl,hb2⟩);all_goals
    clear g0 g1 g2 q0 q1 q2;go_wp2;go_roundw
    case rel=>exact⟨k+1,by omega,by go_num,hbr.drew.trans (hb2.mono hbr.size)⟩
    case measure=>simp[intOf];omega
  ·go_wp2
   go_ret;exact⟨rfl,hbr⟩
theorem eqHeapS_in(ao ao':Option Addr)(n cap cap':Nat)(Hp Hq Hq':Nat->HeapV)(w:World)(hn:n<=1048576)(hlen:∀i,i<n->(Hp i).len<=1048576)(h:RdH w ao n Hp Hq)(h':RdH w ao' n Hp Hq'):
 Calls Tryz.prog 48 #[.slice ao n cap,.slice ao' n cap'] w fun e w'=>e=.returned (.bool true)/\Below w.heap.size w w':=by
 by_cases h0:n=0
 ·subst h0;exact eqHeapS_nil ao ao' cap cap' w
 ·rcases h.row with hr|⟨b,off,rfl,hr⟩
  ·omega
  ·rcases h'.row with hr'|⟨b',off',rfl,hr'⟩
   ·omega
   ·exact eqHeapS_at b off b' off' n cap cap' Hp Hq Hq' w hn hlen hr hr' h h'
structure Rd(w:World)(aR:Option Addr)(nR:Nat)(aH:Option Addr)(Hq:Nat->HeapV)(aO:Option Addr)(M:MV):Prop where
 regs:InRow w aR nR (numF .u64 M.R)
 heaps:RdH w aH M.nH M.Hp Hq
 obs:InRow w aO (M.nO*2) (obsF M.K M.V)
theorem Rd.below{w w':World}{B:Nat}{aR:Option Addr}{nR:Nat}{aH:Option Addr}{Hq:Nat->HeapV}{aO:Option Addr}{M:MV}(h:Rd w aR nR aH Hq aO M)(hb:Below B w w')(hB:w.heap.size<=B):Rd w' aR nR aH Hq aO M:=
 ⟨h.regs.below hb hB,h.heaps.below hb hB,h.obs.below hb hB⟩
theorem eqMach_rd(M:MV)(nR:Nat)(aR aR':Option Addr)(cR cR':Nat)(aH aH':Option Addr)(cH cH':Nat)(Hq Hq':Nat->HeapV)(aO aO':Option Addr)(cO cO':Nat)(w:World)
 (hs:Small nR M.nH M.Hp M.nO)(h:Rd w aR nR aH Hq aO M)(h':Rd w aR' nR aH' Hq' aO' M):
 Calls Tryz.prog 19 #[.agg #[.slice aR nR cR,.bool M.z,.bool M.c,.bool M.hz,.bool M.hc,.slice aH M.nH cH,.int .i64 M.pc,.int .i64 M.st,.slice aO M.nO cO],.agg #[.slice aR' nR cR',.bool M.z,.bool M.c,.bool M.hz,.bool M.hc,.slice aH' M.nH cH',.int .i64 M.pc,.int .i64 M.st,.slice aO' M.nO cO']] w fun e w'=>e=.returned (.bool true)/\Below w.heap.size w w':=by
 have HS:Hid (Small nR M.nH M.Hp M.nO):=hs;have H1:Hid (Rd w aR nR aH Hq aO M):=h;have H2:Hid (Rd w aR' nR aH' Hq' aO' M):=h';have e1:(M.z !=M.z)=false:=by simp
 have e2:(M.c !=M.c)=false:=by simp
 have e3:(M.hz !=M.hz)=false:=by simp
 have e4:(M.hc !=M.hc)=false:=by simp
 clear hs h h';go_enter Tryz.func19,Tryz.ntmps19;go_wp2_with fail;have b0:=((Below.refl w.heap.size w).alloc (Nat.le_refl _) (.cells #[.slice aR nR cR,.bool M.z,.bool M.c,.bool M.hz,.bool M.hc,.slice aH M.nH cH,.int .i64 M.pc,.int .i64 M.st,.slice aO M.nO cO] 28)).alloc (by simp) (.cells #[.slice aR' nR cR',.bool M.z,.bool M.c,.bool M.hz,.bool M.hc,.slice aH' M.nH cH',.int .i64 M.pc,.int .i64 M.st,.slice aO' M.nO cO'] 28);refine(eqUint64S_in _ _ _ _ _ M.R _ HS.out.regs ?h1 ?h2).mono ?_
 case h1=>exact(H1.out.below b0 (Nat.le_refl _)).regs
 case h2=>exact(H2.out.below b0 (Nat.le_refl _)).regs
 rintro e w1⟨rfl,hb1⟩;have b1:=b0.trans (hb1.mono (by simp;omega));have HB1:Hid (Below w.heap.size w w1):=b1;obtain⟨hc1,_⟩:=bcell hb1;have hz2:w.heap.size+1<w1.heap.size:=by have:=hb1.size;simp at this;omega
 have hz3:w.heap.size<w1.heap.size:=by omega
 clear b0 b1 hb1;go_wp2_with fail;refine(eqHeapS_in _ _ _ _ _ M.Hp Hq Hq' _ HS.out.heaps HS.out.data ?h3 ?h4).mono ?_
 case h3=>exact(H1.out.below HB1.out (Nat.le_refl _)).heaps
 case h4=>exact(H2.out.below HB1.out (Nat.le_refl _)).heaps
 rintro e w2⟨rfl,hb2⟩;have HB2:Hid (Below w.heap.size w w2):=HB1.out.trans (hb2.mono HB1.out.size);obtain⟨hc2,_⟩:=bcell hb2;have hy2:w.heap.size+1<w2.heap.size:=Nat.lt_of_lt_of_le hz2 hb2.size;have hy3:w.heap.size<w2.heap.size:=by omega
 clear hb2;go_wp2_with fail;refine(eqObsS_in _ _ _ _ _ M.K M.V _ HS.out.obs ?h5 ?h6).mono ?_
 case h5=>exact(H1.out.below HB2.out (Nat.le_refl _)).obs
 case h6=>exact(H2.out.below HB2.out (Nat.le_refl _)).obs
 rintro e w3⟨rfl,hb3⟩;go_wp2;go_ret;exact⟨rfl,HB2.out.trans (hb3.mono HB2.out.size)⟩
theorem inRow_own{w:World}{base e size n cap m:Nat}{ao:Option Addr}{f:Nat->Value}(h:w.ownsRow base e size (.slice ao n cap) n (first m f))(hm:m=n*size):InRow w ao m f:=by
 by_cases h0:n=0
 ·left;rw[hm,h0,Nat.zero_mul]
 ·obtain⟨g,c,hv⟩:=row_some h (by omega)
  simp only[Value.slice.injEq]at hv;obtain⟨rfl,_,rfl⟩:=hv;right;refine⟨g,0,rfl,(h.lt g rfl).2,fun i hi=>?_⟩;rw[Nat.zero_add,h.cellAt i (by omega),first_at hi]
theorem Mem.rd{w:World}{base:Nat}{p:Pl}{M:MV}(h:Mem w base p M):Rd w (some ⟨p.bR,0,none⟩) 8 p.aH (place M.Hp p.blk p.cap) p.aO M:=
 ⟨inRow_own h.regs rfl,⟨inRow_own h.heaps rfl,fun _ _=>⟨rfl,rfl,rfl⟩,fun i hi=>inRow_own (h.data i hi) (by omega)⟩,inRow_own h.obs rfl⟩
def zeroM:MV:={R:=fun _=>0,z:=false,c:=false,hz:=false,hc:=false,nH:=0,Hp:=fun _=>⟨0,false,none,0,0,fun _=>0⟩,pc:=0,st:=0,nO:=0,K:=fun _=>0,V:=fun _=>0}
theorem zero_rd(w:World):Rd w none 0 none zeroM.Hp none zeroM:=⟨.inl rfl,⟨.inl rfl,fun _ hi=>absurd hi (Nat.not_lt_zero _),fun _ hi=>absurd hi (Nat.not_lt_zero _)⟩,.inl rfl⟩
def SmallA:Option MV->Prop
 |none=>True
 |some M=>Small 8 M.nH M.Hp M.nO
theorem eqMach_ans{w:World}{base base':Nat}{v v':Value}{o:Option MV}(hs:SmallA o)(h:Ans w base v o)(h':Ans w base' v' o):
 Calls Tryz.prog 19 #[v,v'] w fun e w'=>e=.returned (.bool true)/\Below w.heap.size w w':=by
 cases o with
 |none=>
  rw[show v=zeroV from h,show v'=zeroV from h'];exact eqMach_rd zeroM 0 none none 0 0 none none 0 0 zeroM.Hp zeroM.Hp none none 0 0 w ⟨by decide,by decide,fun i hi=>absurd hi (Nat.not_lt_zero _),by decide⟩ (zero_rd w) (zero_rd w)
 |some M=>
  obtain⟨p,rfl,m⟩:=h;obtain⟨p',rfl,m'⟩:=h';exact eqMach_rd M 8 _ _ p.cR p'.cR _ _ p.cH p'.cH _ _ _ _ p.cO p'.cO w hs m.rd m'.rd
end Go.Proofs.YtpbceodheeepoaaGreat
