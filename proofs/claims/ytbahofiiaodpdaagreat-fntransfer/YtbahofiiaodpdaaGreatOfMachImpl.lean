import Derived.Test.YtbahofiiaodpdaaGreatOfMachCopy2
import Derived.Test.YtbahofiiaodpdaaGreatOfInsSame
set_option maxHeartbeats 2000000
namespace Go.Proofs.YtbahofiiaodpdaaGreat
open Go.RowKit
def hOK(base:Int)(len:Nat):Bool:=decide (1<=(len:Int))&&decide ((len:Int)<=4096)&&decide (base<=18446744073709551615-(len:Int))
def ovl(base:Int)(len:Nat)(base':Int)(len':Nat):Bool:=decide (base<base'+(len':Int))&&decide (base'<base+(len:Int))
theorem size_any(base:Int)(wr:Bool)(ao:Option Addr)(len cap:Nat)(w:World)(hl:len<=1048576):
 Calls Tryz.prog 37 #[.agg #[.int .u64 base,.bool wr,.slice ao len cap]] w fun e w'=>e=.returned (.int .u64 len)/\Below w.heap.size w w':=by
 go_enter Tryz.func37,Tryz.ntmps37;go_wp2;go_ret;exact⟨rfl,(Below.refl _ _).alloc (Nat.le_refl _) _⟩
theorem validHeap_any(base:Int)(wr:Bool)(ao:Option Addr)(len cap:Nat)(w:World)(hl:len<=1048576):
 Calls Tryz.prog 96 #[.agg #[.int .u64 base,.bool wr,.slice ao len cap]] w fun e w'=>e=.returned (.bool (hOK base len))/\Below w.heap.size w w':=by
 go_enter Tryz.func96,Tryz.ntmps96;go_wp2;all_goals(go_ret;refine⟨ret_bool ?_,(Below.refl _ _).alloc (Nat.le_refl _) _⟩;simp[hOK]<;>omega)
theorem overlap_any(base:Int)(wr:Bool)(ao:Option Addr)(len cap:Nat)(base':Int)(wr':Bool)(ao':Option Addr)(len' cap':Nat)(w:World)(hl:len<=1048576)(hl':len'<=1048576)(hb0:0<=base)(hb1:base+len<=18446744073709551615)(hb0':0<=base')(hb1':base'+len'<=18446744073709551615):
 Calls Tryz.prog 97 #[.agg #[.int .u64 base,.bool wr,.slice ao len cap],.agg #[.int .u64 base',.bool wr',.slice ao' len' cap']] w fun e w'=>e=.returned (.bool (ovl base len base' len'))/\Below w.heap.size w w':=by
 go_enter Tryz.func97,Tryz.ntmps97;go_wp2;all_goals(go_ret;refine⟨ret_bool ?_,((Below.refl _ _).alloc (Nat.le_refl _) _).alloc (by simp) _⟩;simp[ovl]<;>omega)
def apartAt(Hp:Nat->HeapV)(i j:Nat):Bool:=!ovl (Hp j).base (Hp j).len (Hp i).base (Hp i).len
def heapAt(Hp:Nat->HeapV)(i:Nat):Bool:=hOK (Hp i).base (Hp i).len&&(List.range i).all (apartAt Hp i)
def heapsOK(n:Nat)(Hp:Nat->HeapV):Bool:=decide (n<=8)&&(List.range n).all (heapAt Hp)
theorem all_no{n k:Nat}{p:Nat->Bool}(hk:k<n)(h:p k=false):(List.range n).all p=false:=by
 rw[List.all_eq_false];exact⟨k,List.mem_range.2 hk,by simp[h]⟩
theorem all_yes{n:Nat}{p:Nat->Bool}(h:∀i,i<n->p i=true):(List.range n).all p=true:=by
 rw[List.all_eq_true];exact fun i hi=>h i (List.mem_range.1 hi)
theorem upto_step{k:Nat}{p:Nat->Bool}(h:∀i,i<k->p i=true)(g:p k=true):∀i,i<k+1->p i=true:=by
 intro i hi;by_cases e:i=k
 ·rw[e];exact g
 ·exact h i (by omega)
theorem heaps_no{n k:Nat}{Hp:Nat->HeapV}(hk:k<n)(h:heapAt Hp k=false):heapsOK n Hp=false:=by simp[heapsOK,all_no hk h]
theorem heaps_yes{n:Nat}{Hp:Nat->HeapV}(hn:n<=8)(h:∀i,i<n->heapAt Hp i=true):heapsOK n Hp=true:=by simp[heapsOK,all_yes h,hn]
theorem hOK_le{base:Int}{len:Nat}(h:hOK base len=true):1<=len/\len<=4096/\base+len<=18446744073709551615:=by
 simp[hOK]at h;omega
theorem validHeaps_any(x:Option Addr)(B n cap:Nat)(Hp:Nat->HeapV)(hA:Nat->Option Addr)(hC:Nat->Nat)(w:World)(hn:n<=8)(hcap:n<=cap)(hlen:∀i,i<n->(Hp i).len<=1048576)(hbase:∀i,i<n->0<=(Hp i).base)(hx:0<n->x=some ⟨B,0,none⟩)(hcp:Arr w B (n*3) (heapF fun i=>(Hp i).put (hA i) (hC i))):
 Calls Tryz.prog 74 #[.slice x n cap] w fun e w'=>e=.returned (.bool (heapsOK n Hp))/\Below w.heap.size w w':=by
 have hb:=hcp.lt;have HA:Hid (Arr w B (n*3) (heapF fun i=>(Hp i).put (hA i) (hC i))):=hcp;have HXX:Hid (0<n->x=some ⟨B,0,none⟩):=hx;have HL:Hid (∀i,i<n->(Hp i).len<=1048576):=hlen;have HZ:Hid (∀i,i<n->0<=(Hp i).base):=hbase;clear hcp hlen hbase hx;go_enter Tryz.func74,Tryz.ntmps74;go_wp2;go_loopw [12](fun i wr=>∃k:Nat,k<=n/\i=.int .i64 k/\Below w.heap.size w wr/\∀i,i<k->heapAt Hp i=true)(fun i _=>n-(intOf i).toNat)
 case atStart=>exact⟨0,Nat.zero_le _,rfl,Below.refl _ _,fun i hi=>by omega⟩
 case round=>
  obtain⟨k,hk,rfl,hbr,hall⟩:=hrel;have HK:Hid (∀i,i<k->heapAt Hp i=true):=hall;clear hall;by_cases hlt:k<n
  ·obtain rfl:x=some ⟨B,0,none⟩:=HXX.out (by omega)
   have g0:=(hbr.cell (p:=⟨B,k*3,none⟩) hb).trans ((HA.out.cell (i:=k*3+0) (by omega)).trans (congrArg some (heapF_0 _ k)));have g1:=(hbr.cell (p:=⟨B,k*3+1,none⟩) hb).trans ((HA.out.cell (i:=k*3+1) (by omega)).trans (congrArg some (heapF_1 _ k)));have g2:=(hbr.cell (p:=⟨B,k*3+2,none⟩) hb).trans ((HA.out.cell (i:=k*3+2) (by omega)).trans (congrArg some (heapF_2 _ k)));simp only[HeapV.put]at g0 g1 g2;go_wp2_with fail;refine(validHeap_any _ _ _ _ _ _ (HL.out k hlt)).mono ?_;rintro e w2⟨rfl,hb2⟩;have HB2:Hid (Below w.heap.size w w2):=(hbr.alloc hbr.size _).trans (hb2.mono (by have:=hbr.size;simp;omega));obtain⟨hc2,_⟩:=bcell hb2;have hz2:wr.heap.size<w2.heap.size:=by have:=hb2.size;simp at this;omega
   have hx0:=hc2 wr.heap.size 0 (by simp);have hx1:=hc2 wr.heap.size 1 (by simp);have hx2:=hc2 wr.heap.size 2 (by simp);simp[go_sem]at hx0 hx1 hx2;clear hc2 hb2 g0 g1 g2;cases hv:hOK (Hp k).base (Hp k).len with
   |false=>
    go_wp2;go_ret;exact⟨ret_bool (heaps_no hlt (by simp[heapAt,hv])).symm,HB2.out⟩
   |true=>
    have HV:Hid (hOK (Hp k).base (Hp k).len=true):=hv;clear hv;have hcap':k<=cap:=by omega
    go_wp2;generalize wr.heap.size=Bx at hz2 hx0 hx1 hx2⊢;go_loopw [24](fun i wi=>∃j:Nat,j<=k/\i=.int .i64 j/\Below w2.heap.size w2 wi/\∀i,i<j->apartAt Hp k i=true)(fun i _=>k-(intOf i).toNat)
    case atStart=>exact⟨0,Nat.zero_le _,rfl,Below.refl _ _,fun i hi=>by omega⟩
    case round=>
     obtain⟨j,hj,rfl,hbi,hap⟩:=hrel;have HP:Hid (∀i,i<j->apartAt Hp k i=true):=hap;clear hap;have y0:=(hbi.cell (p:=⟨Bx,0,none⟩) hz2).trans hx0;have y1:=(hbi.cell (p:=⟨Bx,1,none⟩) hz2).trans hx1;have y2:=(hbi.cell (p:=⟨Bx,2,none⟩) hz2).trans hx2;have HBI:Hid (Below w.heap.size w wr):=HB2.out.trans (hbi.mono HB2.out.size);have hzi:Bx<wr.heap.size:=Nat.lt_of_lt_of_le hz2 hbi.size;clear hx0 hx1 hx2;by_cases hjk:j<k
     ·have g0:=(HBI.out.cell (p:=⟨B,j*3,none⟩) hb).trans ((HA.out.cell (i:=j*3+0) (by omega)).trans (congrArg some (heapF_0 _ j)))
      have g1:=(HBI.out.cell (p:=⟨B,j*3+1,none⟩) hb).trans ((HA.out.cell (i:=j*3+1) (by omega)).trans (congrArg some (heapF_1 _ j)));have g2:=(HBI.out.cell (p:=⟨B,j*3+2,none⟩) hb).trans ((HA.out.cell (i:=j*3+2) (by omega)).trans (congrArg some (heapF_2 _ j)));simp only[HeapV.put]at g0 g1 g2;go_wp2_with fail;have o1:=hOK_le HV.out;have o2:hOK (Hp j).base (Hp j).len=true:=by have:=HK.out j hjk;simp[heapAt]at this;exact this.1
      have o3:=hOK_le o2;refine(overlap_any _ _ _ _ _ _ _ _ _ _ _ (HL.out j (by omega)) (HL.out k hlt) (HZ.out j (by omega)) o3.2.2 (HZ.out k hlt) o1.2.2).mono ?_;rintro e w3⟨rfl,hb3⟩;have b3:=(hbi.alloc hbi.size _).trans (hb3.mono (by have:=hbi.size;simp;omega));have HB3:Hid (Below w2.heap.size w2 w3):=b3;clear hb3 b3 g0 g1 g2 o1 o2 o3 y0 y1 y2;cases hv:ovl (Hp j).base (Hp j).len (Hp k).base (Hp k).len with
      |true=>
       go_wp2;go_ret;exact⟨ret_bool (heaps_no hlt (by simp[heapAt,all_no hjk (show apartAt Hp k j=false by simp[apartAt,hv])])).symm,HB2.out.trans (HB3.out.mono HB2.out.size)⟩
      |false=>
       have q:apartAt Hp k j=true:=by simp[apartAt,hv]
       have HQ:Hid (apartAt Hp k j=true):=q;clear hv q;go_wp2;go_roundw
       case rel=>exact⟨j+1,by omega,by go_num,HB3.out,upto_step HP.out HQ.out⟩
       case measure=>simp[intOf];omega
     ·obtain rfl:j=k:=by omega
      have q:heapAt Hp j=true:=by simp only[heapAt,HV.out,all_yes HP.out,Bool.and_self]
      have HQ:Hid (heapAt Hp j=true):=q;clear y0 y1 y2 q;go_wp2;go_roundw
      case rel=>exact⟨j+1,by omega,by go_num,HBI.out,upto_step HK.out HQ.out⟩
      case measure=>simp[intOf];omega
  ·go_wp2
   go_ret;obtain rfl:k=n:=by omega
   exact⟨ret_bool (heaps_yes hn HK.out).symm,hbr⟩
def seenOK(n:Nat)(K:Nat->Int):Bool:=decide (n<=200000)&&(List.range n).all fun i=>inB (K i) 1 3
def machOK(nR:Nat)(z c hz hc:Bool)(nH:Nat)(Hp:Nat->HeapV)(pc st:Int)(nO:Nat)(K:Nat->Int):Bool:=
 decide (nR=8)&&(hz||!z)&&(hc||!c)&&heapsOK nH Hp&&inB pc 0 2000&&inB st 0 2&&seenOK nO K
theorem seen_no{n k:Nat}{K:Nat->Int}(hk:k<n)(h:inB (K k) 1 3=false):seenOK n K=false:=by
 simp[seenOK,all_no (p:=fun i=>inB (K i) 1 3) hk h]
theorem mach_no{nR:Nat}{z c hz hc:Bool}{nH:Nat}{Hp:Nat->HeapV}{pc st:Int}{nO:Nat}{K:Nat->Int}(h:¬(0<=pc/\pc<=2000/\0<=st/\st<=2)):machOK nR z c hz hc nH Hp pc st nO K=false:=by
 have:(inB pc 0 2000&&inB st 0 2)=false:=by simp[inB];omega
 simp only[machOK,Bool.and_assoc];rw[show(inB pc 0 2000&&(inB st 0 2&&seenOK nO K))=false by rw[<-Bool.and_assoc,this];rfl];simp
theorem validHeaps_great(ao:Option Addr)(n cap:Nat)(Hp:Nat->HeapV)(w:World)(hn:8<n)(hm:n<=1048576):
 Calls Tryz.prog 74 #[.slice ao n cap] w fun e w'=>e=.returned (.bool (heapsOK n Hp))/\Below w.heap.size w w':=by
 have h:heapsOK n Hp=false:=by simp[heapsOK];omega
 rw[h];go_enter Tryz.func74,Tryz.ntmps74;go_wp2;go_ret;exact⟨rfl,Below.refl _ _⟩
theorem validSeen_great(ao:Option Addr)(n cap:Nat)(K:Nat->Int)(w:World)(hn:200000<n)(hm:n<=1048576):
 Calls Tryz.prog 75 #[.slice ao n cap] w fun e w'=>e=.returned (.bool (seenOK n K))/\Below w.heap.size w w':=by
 have h:seenOK n K=false:=by simp[seenOK];omega
 rw[h];go_enter Tryz.func75,Tryz.ntmps75;go_wp2;go_ret;exact⟨rfl,Below.refl _ _⟩
theorem validSeen_at(x:Option Addr)(b n cap:Nat)(K V:Nat->Int)(w:World)(hn:n<=200000)(hx:0<n->x=some ⟨b,0,none⟩)(ha:Arr w b (n*2) (obsF K V)):
 Calls Tryz.prog 75 #[.slice x n cap] w fun e w'=>e=.returned (.bool (seenOK n K))/\Below w.heap.size w w':=by
 have hb:=ha.lt;have HA:Hid (Arr w b (n*2) (obsF K V)):=ha;have HXX:Hid (0<n->x=some ⟨b,0,none⟩):=hx;clear ha hx;go_enter Tryz.func75,Tryz.ntmps75;go_wp2;go_loopw [10](fun i wr=>∃k:Nat,k<=n/\i=.int .i64 k/\Below w.heap.size w wr/\∀i,i<k->inB (K i) 1 3=true)(fun i _=>n-(intOf i).toNat)
 case atStart=>exact⟨0,Nat.zero_le _,rfl,Below.refl _ _,fun i hi=>by omega⟩
 case round=>
  obtain⟨k,hk,rfl,hbr,hall⟩:=hrel;have HK:Hid (∀i,i<k->inB (K i) 1 3=true):=hall;clear hall;by_cases hlt:k<n
  ·obtain rfl:x=some ⟨b,0,none⟩:=HXX.out (by omega)
   have g0:=(hbr.cell (p:=⟨b,k*2,none⟩) hb).trans ((HA.out.cell (i:=k*2+0) (by omega)).trans (congrArg some (obsF_0 K V k)));have g1:=(hbr.cell (p:=⟨b,k*2+1,none⟩) hb).trans ((HA.out.cell (i:=k*2+1) (by omega)).trans (congrArg some (obsF_1 K V k)));by_cases hi:1<=K k/\K k<=3
   ·obtain⟨i1,i2⟩:=hi
    go_wp2;go_roundw
    case rel=>exact⟨k+1,by omega,by go_num,hbr.alloc hbr.size _,upto_step HK.out (by simp[inB];omega)⟩
    case measure=>simp[intOf];omega
   ·by_cases i1:1<=K k
    ·have i2:3<K k:=by omega
     go_wp2;go_ret;exact⟨ret_bool (seen_no hlt (by simp[inB];omega)).symm,hbr.alloc hbr.size _⟩
    ·have i2:K k<1:=by omega
     go_wp2;go_ret;exact⟨ret_bool (seen_no hlt (by simp[inB];omega)).symm,hbr.alloc hbr.size _⟩
  ·go_wp2
   go_ret;obtain rfl:k=n:=by omega
   exact⟨ret_bool (by simp only[seenOK,all_yes HK.out,hn,decide_true,Bool.and_self]),hbr⟩
theorem validSeen_any(x:Option Addr)(b n cap:Nat)(K V:Nat->Int)(w:World)(hn:n<=1048576)(hx:0<n->x=some ⟨b,0,none⟩)(ha:Arr w b (n*2) (obsF K V)):
 Calls Tryz.prog 75 #[.slice x n cap] w fun e w'=>e=.returned (.bool (seenOK n K))/\Below w.heap.size w w':=by
 by_cases h:n<=200000
 ·exact validSeen_at x b n cap K V w h hx ha
 ·exact validSeen_great _ n cap K w (by omega) hn
theorem validHeaps_all(x:Option Addr)(B n cap:Nat)(Hp:Nat->HeapV)(hA:Nat->Option Addr)(hC:Nat->Nat)(w:World)(hn:n<=1048576)(hcap:n<=cap)(hlen:∀i,i<n->(Hp i).len<=1048576)(hbase:∀i,i<n->0<=(Hp i).base)(hx:0<n->x=some ⟨B,0,none⟩)(hcp:Arr w B (n*3) (heapF fun i=>(Hp i).put (hA i) (hC i))):
 Calls Tryz.prog 74 #[.slice x n cap] w fun e w'=>e=.returned (.bool (heapsOK n Hp))/\Below w.heap.size w w':=by
 by_cases h:n<=8
 ·exact validHeaps_any x B n cap Hp hA hC w h hcap hlen hbase hx hcp
 ·exact validHeaps_great _ n cap Hp w (by omega) hn
theorem implMach_any(xR:Option Addr)(yR bR nR:Nat)(R:Nat->Int)(z c hz hc:Bool)(xH:Option Addr)(yH bH nH:Nat)(Hp:Nat->HeapV)(hA:Nat->Option Addr)(hC:Nat->Nat)(pc st:Int)(xO:Option Addr)(yO bO nO:Nat)(K V:Nat->Int)(w:World)
 (hs:Small nR nH Hp nO)(hbase:∀i,i<nH->0<=(Hp i).base)(h:MachG w xR yR bR nR R xH yH bH nH Hp hA hC xO yO bO nO K V):
 Calls Tryz.prog 39 #[.agg #[.slice xR nR yR,.bool z,.bool c,.bool hz,.bool hc,.slice xH nH yH,.int .i64 pc,.int .i64 st,.slice xO nO yO]] w fun e w'=>
  e=.returned (.bool (machOK nR z c hz hc nH Hp pc st nO K))/\Below w.heap.size w w':=by
 have HS:Hid (Small nR nH Hp nO):=hs;have HM:Hid (MachG w xR yR bR nR R xH yH bH nH Hp hA hC xO yO bO nO K V):=h;have HZ:Hid (∀i,i<nH->0<=(Hp i).base):=hbase;have hr:=hs.regs;clear hs h hbase;have b0:=(Below.refl w.heap.size w).alloc (Nat.le_refl _) (.cells #[.slice xR nR yR,.bool z,.bool c,.bool hz,.bool hc,.slice xH nH yH,.int .i64 pc,.int .i64 st,.slice xO nO yO] 40);have HB0:Hid (Below w.heap.size w (w.alloc (.cells #[.slice xR nR yR,.bool z,.bool c,.bool hz,.bool hc,.slice xH nH yH,.int .i64 pc,.int .i64 st,.slice xO nO yO] 40))):=b0;clear b0;by_cases h1:nR=8
 ·subst h1
  cases hzz:(hz||!z)with
  |false=>
   cases hz<;>cases z<;>simp at hzz
   go_enter Tryz.func39,Tryz.ntmps39;go_wp2;go_ret;exact⟨ret_bool (by simp[machOK]),HB0.out⟩
  |true=>
   cases hcc:(hc||!c)with
   |false=>
    cases hc<;>cases c<;>simp at hcc
    cases hz<;>cases z<;>simp at hzz
    all_goals
     go_enter Tryz.func39,Tryz.ntmps39;go_wp2;go_ret;exact⟨ret_bool (by simp[machOK]),HB0.out⟩
   |true=>
    cases hz<;>cases z<;>simp at hzz<;>cases hc<;>cases c<;>simp at hcc
    all_goals
     go_enter Tryz.func39,Tryz.ntmps39;go_wp2_with fail;refine(validHeaps_all _ bH _ _ Hp hA hC _ HS.out.heaps HM.out.cH HS.out.data HZ.out HM.out.eH.some (HM.out.below HB0.out (Nat.le_refl _)).heaps).mono ?_;rintro e w1⟨rfl,hb1⟩;have b1:=HB0.out.trans (hb1.mono (by simp));have HB1:Hid (Below w.heap.size w w1):=b1;obtain⟨hc1,_⟩:=bcell hb1;have hy:w.heap.size<w1.heap.size:=by have:=hb1.size;simp at this;omega
     clear hb1 b1;cases hH:heapsOK nH Hp with
     |false=>
      go_wp2;go_ret;exact⟨ret_bool (by simp[machOK,hH]),HB1.out⟩
     |true=>
      have HH:Hid (heapsOK nH Hp=true):=hH;clear hH;by_cases hq:0<=pc/\pc<=2000/\0<=st/\st<=2
      ·obtain⟨q1,q2,q3,q4⟩:=hq
       go_wp2_with fail;refine(validSeen_any _ bO _ _ K V _ HS.out.obs HM.out.eO.some (HM.out.below HB1.out (Nat.le_refl _)).obs).mono ?_;rintro e w2⟨rfl,hb2⟩;go_wp2;go_ret;have i1:inB pc 0 2000=true:=by simp[inB];omega
       have i2:inB st 0 2=true:=by simp[inB];omega
       exact⟨ret_bool (by simp[machOK,HH.out,i1,i2]),HB1.out.trans (hb2.mono HB1.out.size)⟩
      ·have HQ:Hid (¬(0<=pc/\pc<=2000/\0<=st/\st<=2)):=hq
       go_wp2_with fail;all_goals(go_ret;exact⟨ret_bool (mach_no HQ.out).symm,HB1.out⟩)
 ·have h1':((nR:Int)==8)=false:=by simp;omega
  go_enter Tryz.func39,Tryz.ntmps39;go_wp2;go_ret;exact⟨ret_bool (by simp[machOK,h1]),HB0.out⟩
structure InRange(R:Nat->Int)(nH:Nat)(Hp:Nat->HeapV):Prop where
 reg:∀i,i<8->0<=R i/\R i<=18446744073709551615
 base:∀i,i<nH->0<=(Hp i).base/\(Hp i).base<=18446744073709551615
 dat:∀i,i<nH->∀j,j<(Hp i).len->0<=(Hp i).dat j/\(Hp i).dat j<=255
theorem mach_facts{nR:Nat}{z c hz hc:Bool}{nH:Nat}{Hp:Nat->HeapV}{pc st:Int}{nO:Nat}{K:Nat->Int}(h:machOK nR z c hz hc nH Hp pc st nO K=true):
 nR=8/\nH<=8/\(∀i,i<nH->1<=(Hp i).len/\(Hp i).len<=4096/\(Hp i).base<=18446744073709551615-((Hp i).len:Int))/\0<=pc/\nO<=200000:=by
 unfold machOK heapsOK seenOK inB at h;simp only[Bool.and_eq_true,decide_eq_true_eq,List.all_eq_true,List.mem_range]at h;obtain⟨⟨⟨⟨⟨⟨h1,_⟩,_⟩,h4,h5⟩,h6,_⟩,_⟩,h8,_⟩:=h;refine⟨h1,h4,fun i hi=>?_,h6,h8⟩;have:=h5 i hi;unfold heapAt hOK at this;simp only[Bool.and_eq_true,decide_eq_true_eq]at this;omega
end Go.Proofs.YtbahofiiaodpdaaGreat
