import Derived.Test.YtfpeecaaleijcaaGreatDoorOfCl
import Derived.Test.YtfpeecaaleijcaaGreatDoorOfAsmShape
import Derived.Deep.DeepCutAuto
import Derived.Test.YtfpeecaaleijcaaGreatDoorOfInsSame
import Derived.Deep.QuietTactic
import Derived.BigQuiet
import Derived.Deep.RegionWith
import Derived.BigRegion
import Derived.Lib.AppendIntMem
import Derived.Maps.AppendAt
import Derived.OwnWalk
import Derived.Lib.BufferWrite
import Derived.Deep.Onto
set_option maxHeartbeats 1600000
namespace Go.Proofs.YtfpeecaaleijcaaGreatDoor
open Go.RowKit
def Ka(dd a b i h:Int)(c:UInt8):ByteArray:=
 if c=65 then Cn a else if c=66 then Cn b else if c=68 then Cn dd else if c=72 then Cn h else if c=73 then Cn i else if c=64 then Cn i else⟨#[c]⟩
def CG(f:UInt8->ByteArray)(o:ByteArray)(l:List UInt8):ByteArray:=l.foldl (fun o c=>o++f c) o
theorem OQ(f:UInt8->ByteArray)(o:ByteArray)(s:ByteArray)(k:Nat)(h:k<s.size):CG f o (s.data.toList.take (k+1))=CG f o (s.data.toList.take k)++f s[k]:=by
 rw[OI s k h];unfold CG;rw[List.foldl_append];rfl
theorem RD(f:UInt8->ByteArray)(o:ByteArray)(s:ByteArray)(k:Nat)(h:s.size<=k):CG f o (s.data.toList.take k)=CG f o s.data.toList:=by
 rw[List.take_of_length_le (by simpa using h)]
theorem Oh(f:UInt8->ByteArray)(m:Nat)(hf:∀c,(f c).size<=m)(l:List UInt8):∀o:ByteArray,(CG f o l).size<=o.size+l.length*m:=by
 induction l with
 |nil=>intro o;simp[CG]
 |cons c t ih=>
  intro o;have:=ih (o++f c);have h1:=hf c;simp only[ByteArray.size_append]at this;show(CG f (o++f c) t).size<=_;simp only[List.length_cons,Nat.add_mul];omega
theorem Jl{p:Prop} [Decidable p]{x y:ByteArray}{n:Nat}(h1:x.size<=n)(h2:y.size<=n):(if p then x else y).size<=n:=by split<;>assumption
theorem Ov(d op:Int):(Kv d op).size<=30:=by
 unfold Kv;repeat' apply Jl
 all_goals decide
theorem Mw(op:Int):(J9 op).size<=10:=by
 unfold J9;rw[jJ];rcases h:Ld[op.toNat]? with _|x
 ·decide
 ·have:∀y∈Ld,y.size<=10:=by decide
  exact this x (List.mem_of_getElem? h)
theorem Wu(w:World)(c:UInt8):
 (convert 22 9 (Vs w.heap.size 1 1)).run Tryz.prog (w.alloc (.cells #[.int .u8 (c.toNat:Int)] 5))=.ok (.string ⟨#[c]⟩) (w.alloc (.cells #[.int .u8 (c.toNat:Int)] 5)):=by
 have:=Ei w c.toNat (by omega) (by have:=c.toNat_lt;omega);simpa using this
def Nh(d op:Int):ByteArray:=if(Kv d op).toList.isEmpty=true then J9 op else J9 op++⟨#[32]⟩
def Fb(d op dd a b i h:Int):ByteArray:=CG (Ka dd a b i h) (Nh d op) (Kv d op).data.toList
theorem aC(dd a b i h:Int)(hd:dd.natAbs<1000001)(ha:a.natAbs<1000001)(hb:b.natAbs<1000001)(hi:i.natAbs<1000001)(hh:h.natAbs<1000001)(c:UInt8):(Ka dd a b i h c).size<=1000003:=by
 have:=EJ dd;have:=EJ a;have:=EJ b;have:=EJ i;have:=EJ h;unfold Ka;repeat' split
 all_goals first|omega|(show 1<=1000003;omega)
theorem aL(w:World)(op:Int)(h1:1<=op)(h2:op<=34):(w.alloc (.cells (Ld.map Value.string).toArray 9)).cell? ⟨w.heap.size,op.toNat,none⟩=some (.string (J9 op)):=by
 obtain rfl|rfl|rfl|rfl|rfl|rfl|rfl|rfl|rfl|rfl|rfl|rfl|rfl|rfl|rfl|rfl|rfl|rfl|rfl|rfl|rfl|rfl|rfl|rfl|rfl|rfl|rfl|rfl|rfl|rfl|rfl|rfl|rfl|rfl:op=1∨op=2∨op=3∨op=4∨op=5∨op=6∨op=7∨op=8∨op=9∨op=10∨op=11∨op=12∨op=13∨op=14∨op=15∨op=16∨op=17∨op=18∨op=19∨op=20∨op=21∨op=22∨op=23∨op=24∨op=25∨op=26∨op=27∨op=28∨op=29∨op=30∨op=31∨op=32∨op=33∨op=34:=by omega
 all_goals(simp[go_sem];rfl)
theorem Xj(op dd a b i h d:Int)(w:World)(h1:1<=op)(h2:op<=34)(hd:d=0∨d=1)(kd:dd.natAbs<1000001)(ka:a.natAbs<1000001)(kb:b.natAbs<1000001)(ki:i.natAbs<1000001)(kh:h.natAbs<1000001):
 Calls Tryz.prog 50 #[.agg #[Vi op,Vi dd,Vi a,Vi b,Vi i,Vi h],Vi d] w fun e w'=>e=.returned (.string (Fb d op dd a b i h))/\Below w.heap.size w w':=by
 have HRB:=hxy (aC dd a b i h kd ka kb ki kh);have XD:=hxy (FH dd kd);have XA:=hxy (FH a ka);have XB:=hxy (FH b kb);have XI:=hxy (FH i ki);have XH:=hxy (FH h kh);have XS:Hid (∀w,Calls Tryz.prog 83 #[Vi op,Vi d] w fun e w'=>e=.returned (.string (Kv d op))/\Below w.heap.size w w'):=fun w=>Wq op d w h1 h2 hd
 have HD:=hxy hd;clear kd ka kb ki kh hd;go_enter Tryz.func50,Tryz.ntmps50;go_upto_region 1 with fail;obtain⟨u,hu,hbu,hc⟩:∃v,w.alloc (.cells #[Vi op,Vi dd,Vi a,Vi b,Vi i,Vi h] 87)=v/\Below w.heap.size w v/\Cl v w.heap.size [Vi op,Vi dd,Vi a,Vi b,Vi i,Vi h]:=⟨_,rfl,Ak,Cl.new⟩
 rw[hu];clear hu;have huz:=hc.1;have K0:∀w',Below u.heap.size u w'->w'.cell? ⟨w.heap.size,0,none⟩=some (Vi op):=fun w' h=>(h.cell (p:=⟨w.heap.size,0,none⟩) huz).trans (hc.2 0 (by simp))
 have K1:∀w',Below u.heap.size u w'->w'.cell? ⟨w.heap.size,1,none⟩=some (Vi dd):=fun w' h=>(h.cell (p:=⟨w.heap.size,1,none⟩) huz).trans (hc.2 1 (by simp))
 have K2:∀w',Below u.heap.size u w'->w'.cell? ⟨w.heap.size,2,none⟩=some (Vi a):=fun w' h=>(h.cell (p:=⟨w.heap.size,2,none⟩) huz).trans (hc.2 2 (by simp))
 have K3:∀w',Below u.heap.size u w'->w'.cell? ⟨w.heap.size,3,none⟩=some (Vi b):=fun w' h=>(h.cell (p:=⟨w.heap.size,3,none⟩) huz).trans (hc.2 3 (by simp))
 have K4:∀w',Below u.heap.size u w'->w'.cell? ⟨w.heap.size,4,none⟩=some (Vi i):=fun w' h=>(h.cell (p:=⟨w.heap.size,4,none⟩) huz).trans (hc.2 4 (by simp))
 have K5:∀w',Below u.heap.size u w'->w'.cell? ⟨w.heap.size,5,none⟩=some (Vi h):=fun w' h=>(h.cell (p:=⟨w.heap.size,5,none⟩) huz).trans (hc.2 5 (by simp))
 clear hc;have HK:Hid (_/\_/\_/\_/\_/\_):=⟨K0,K1,K2,K3,K4,K5⟩
 clear K0 K1 K2 K3 K4 K5;have c0:=HK.out.1 u (Below.refl _ _);go_wp2_with fail;refine(XS.out _).mono ?_;rintro e w1⟨rfl,hb1⟩;clear c0;have hB:=hbu.trans (hb1.mono hbu.size);obtain⟨s,hs⟩:=Ae (Kv d op);have hsz:=Ov d op;have HS:=hxy hs;rw[hs]at hsz⊢;clear hs;go_upto_region 2 with fail;go_cut [6](fun s6 wx=>s6=.string (J9 op)/\Below u.heap.size u wx)
 case first=>
  have k0:=HK.out.1;have g1:¬op<0:=by omega
  have g2:op<35:=by omega
  refine wp_region_held_drew (S:=fun w'=>Below u.heap.size u w') (by kernel_rfl) hb1.drew (fun _=>?_);refine AB 1 rfl ?_;refine AB 2 rfl ?_;obtain⟨u1,hu1,hbd⟩:∃v,w1.drew=v/\Below u.heap.size u v:=⟨_,rfl,hb1.drew⟩
  rw[hu1];clear hu1 k0;refine AO 0 rfl (fun KK hK=>?_);go_simp;refine(Vt _).mono ?_;rintro e w2⟨rfl,hw2⟩;have hB2:Below u.heap.size u w2:=by rw[hw2];exact hbd.alloc hbd.size _
  have hn:=aL u1 op h1 h2;rw[<-hw2]at hn;clear hw2;refine hK.out _ _ hB2 (fun _=>?_);clear hK KK;try simp only[Act.put,BP,BN,BK,BQ,BS,BM]
  have g0:0<=op:=by omega
  refine AO 3 rfl (fun KK hK=>?_);go_simp;refine hK.out _ _ hB2 (fun _=>?_);clear hK KK
  try simp only[Act.put,BP,BN,BK,BQ,BS,BM]
  refine AO 4 rfl (fun KK hK=>?_)
  go_simp
  refine hK.out _ _ hB2 (fun _=>?_)
  clear hK KK
  try simp only[Act.put,BP,BN,BK,BQ,BS,BM]
  refine AO 5 rfl (fun KK hK=>?_)
  go_simp
  refine hK.out _ _ hB2 (fun _=>?_)
  clear hK KK
  try simp only[Act.put,BP,BN,BK,BQ,BS,BM]
  refine wpAnyH_done (by kernel_rfl) ?_ _
  go_wp2_with fail
  go_meet
  exact⟨rfl,hB2⟩
 case rest=>
  obtain⟨rfl,hbx⟩:=hcut
  obtain⟨nm,hnm⟩:=Ae (J9 op)
  have hnz:=Mw op
  have HNM:=hxy hnm
  rw[hnm]at hnz⊢
  clear hnm
  have hz0:¬9223372036854775807<nm.size+1:=by omega
  go_upto_if 18 with fail
  go_cut [6](fun s6 wx=>s6=.string (Nh d op)/\Below u.heap.size u wx)
  case first=>
   cases hse:s.toList.isEmpty with
   |true=>
    go_wp2_with fail
    go_meet
    exact⟨by rw[Nh,HS.out,HNM.out,hse];rfl,hbx⟩
   |false=>
    go_wp2_with fail
    go_meet
    exact⟨by rw[Nh,HS.out,HNM.out,hse];rfl,hbx⟩
  case rest=>
  obtain⟨rfl,hby⟩:=hcut
  obtain⟨bg,hbg⟩:=Ae (Nh d op)
  have hbz:bg.size<=12:=by
   rw[<-hbg]
   unfold Nh
   apply Jl
   ·rw[HNM.out];omega
   ·rw[HNM.out];simp only[ByteArray.size_append];show nm.size+1<=12;omega
  have HBG:=hxy hbg
  rw[hbg]
  clear hbg hbx hz0
  go_wp2_with fail
  go_loopw [6,7](fun o j wr=>∃k:Nat,k<=s.size/\j=Vi k/\o=.string (CG (Ka dd a b i h) bg (s.data.toList.take k))/\Below u.heap.size u wr)(fun _ j _=>s.size-(intOf j).toNat)
  case atStart=>exact⟨0,Nat.zero_le _,rfl,rfl,hby⟩
  case round=>
   obtain⟨k,hk,rfl,rfl,hbr⟩:=hrel
   obtain⟨o,ho⟩:=Ae (CG (Ka dd a b i h) bg (s.data.toList.take k))
   have hoz:o.size<=31000000:=by
    have h3:=Oh _ _ HRB.out (s.data.toList.take k) bg
    rw[ho]at h3
    have h4:(s.data.toList.take k).length<=30:=by simp;omega
    have h5:=Nat.mul_le_mul_right 1000003 h4
    omega
   have HO:=hxy ho
   rw[ho]
   clear ho
   by_cases hlt:k<s.size
   rotate_left
   ·have hge:¬(k:Int)<s.size:=by omega
    go_wp2_with fail
    go_ret
    refine⟨?_,hbu.trans (hbr.mono hbu.size)⟩
    rw[<-HO.out,RD _ _ _ _ (by omega)]
    simp[Fb,HBG.out,HS.out]
   have hl1:(k:Int)<s.size:=by omega
   obtain⟨c,hcc⟩:=Ae (s[k])
   have HC:=hxy hcc
   have HST:Hid (CG (Ka dd a b i h) bg (s.data.toList.take (k+1))=CG (Ka dd a b i h) bg (s.data.toList.take k)++Ka dd a b i h s[k]):=OQ _ _ _ _ hlt
   have hq:∀c,o.size+(Ka dd a b i h c).size<9223372036854775807:=fun c=>by have:=HRB.out c;omega
   have HQ:=hxy hq
   by_cases e65:c=65
   ·have f65:((c.toNat:Int)==65)=true:=by rw[e65];rfl
    have kf:=HK.out.2.2.1 _ hbr
    have hzz:¬9223372036854775807<o.size+(Cn a).size:=by have:=hq 65;simp only[Ka]at this;simp at this;omega
    clear e65
    go_wp2_with fail
    refine(XA.out _).mono ?_
    rintro e w2⟨rfl,hb2⟩
    have hB2:=hbr.trans (hb2.mono hbr.size)
    go_wp2_with fail
    go_roundw
    case rel=>exact⟨k+1,by omega,by go_num,by rw[HST.out,HC.out,HO.out,show c=65 from(by have:=f65;rw[beq_iff_eq]at this;exact UInt8.toNat_inj.1 (show c.toNat=65 by omega))];simp[Ka],hB2⟩
    case measure=>simp[intOf];omega
   have f65:((c.toNat:Int)==65)=false:=by rw[beq_eq_false_iff_ne];intro x;exact e65 (UInt8.toNat_inj.1 (show c.toNat=65 by omega))
   by_cases e66:c=66
   ·have f66:((c.toNat:Int)==66)=true:=by rw[e66];rfl
    have kf:=HK.out.2.2.2.1 _ hbr
    have hzz:¬9223372036854775807<o.size+(Cn b).size:=by have:=hq 66;simp only[Ka]at this;simp at this;omega
    clear e66
    go_wp2_with fail
    refine(XB.out _).mono ?_
    rintro e w2⟨rfl,hb2⟩
    have hB2:=hbr.trans (hb2.mono hbr.size)
    go_wp2_with fail
    go_roundw
    case rel=>exact⟨k+1,by omega,by go_num,by rw[HST.out,HC.out,HO.out,show c=66 from(by have:=f66;rw[beq_iff_eq]at this;exact UInt8.toNat_inj.1 (show c.toNat=66 by omega))];simp[Ka],hB2⟩
    case measure=>simp[intOf];omega
   have f66:((c.toNat:Int)==66)=false:=by rw[beq_eq_false_iff_ne];intro x;exact e66 (UInt8.toNat_inj.1 (show c.toNat=66 by omega))
   by_cases e68:c=68
   ·have f68:((c.toNat:Int)==68)=true:=by rw[e68];rfl
    have kf:=HK.out.2.1 _ hbr
    have hzz:¬9223372036854775807<o.size+(Cn dd).size:=by have:=hq 68;simp only[Ka]at this;simp at this;omega
    clear e68
    go_wp2_with fail
    refine(XD.out _).mono ?_
    rintro e w2⟨rfl,hb2⟩
    have hB2:=hbr.trans (hb2.mono hbr.size)
    go_wp2_with fail
    go_roundw
    case rel=>exact⟨k+1,by omega,by go_num,by rw[HST.out,HC.out,HO.out,show c=68 from(by have:=f68;rw[beq_iff_eq]at this;exact UInt8.toNat_inj.1 (show c.toNat=68 by omega))];simp[Ka],hB2⟩
    case measure=>simp[intOf];omega
   have f68:((c.toNat:Int)==68)=false:=by rw[beq_eq_false_iff_ne];intro x;exact e68 (UInt8.toNat_inj.1 (show c.toNat=68 by omega))
   by_cases e72:c=72
   ·have f72:((c.toNat:Int)==72)=true:=by rw[e72];rfl
    have kf:=HK.out.2.2.2.2.2 _ hbr
    have hzz:¬9223372036854775807<o.size+(Cn h).size:=by have:=hq 72;simp only[Ka]at this;simp at this;omega
    clear e72
    go_wp2_with fail
    refine(XH.out _).mono ?_
    rintro e w2⟨rfl,hb2⟩
    have hB2:=hbr.trans (hb2.mono hbr.size)
    go_wp2_with fail
    go_roundw
    case rel=>exact⟨k+1,by omega,by go_num,by rw[HST.out,HC.out,HO.out,show c=72 from(by have:=f72;rw[beq_iff_eq]at this;exact UInt8.toNat_inj.1 (show c.toNat=72 by omega))];simp[Ka],hB2⟩
    case measure=>simp[intOf];omega
   have f72:((c.toNat:Int)==72)=false:=by rw[beq_eq_false_iff_ne];intro x;exact e72 (UInt8.toNat_inj.1 (show c.toNat=72 by omega))
   by_cases e73:c=73
   ·have f73:((c.toNat:Int)==73)=true:=by rw[e73];rfl
    have kf:=HK.out.2.2.2.2.1 _ hbr
    have hzz:¬9223372036854775807<o.size+(Cn i).size:=by have:=hq 73;simp only[Ka]at this;simp at this;omega
    clear e73
    go_wp2_with fail
    refine(XI.out _).mono ?_
    rintro e w2⟨rfl,hb2⟩
    have hB2:=hbr.trans (hb2.mono hbr.size)
    go_wp2_with fail
    go_roundw
    case rel=>exact⟨k+1,by omega,by go_num,by rw[HST.out,HC.out,HO.out,show c=73 from(by have:=f73;rw[beq_iff_eq]at this;exact UInt8.toNat_inj.1 (show c.toNat=73 by omega))];simp[Ka],hB2⟩
    case measure=>simp[intOf];omega
   have f73:((c.toNat:Int)==73)=false:=by rw[beq_eq_false_iff_ne];intro x;exact e73 (UInt8.toNat_inj.1 (show c.toNat=73 by omega))
   by_cases e64:c=64
   ·have f64:((c.toNat:Int)==64)=true:=by rw[e64];rfl
    have kf:=HK.out.2.2.2.2.1 _ hbr
    have hzz:¬9223372036854775807<o.size+(Cn i).size:=by have:=hq 64;simp only[Ka]at this;simp at this;omega
    clear e64
    go_wp2_with fail
    refine(XI.out _).mono ?_
    rintro e w2⟨rfl,hb2⟩
    have hB2:=hbr.trans (hb2.mono hbr.size)
    go_wp2_with fail
    go_roundw
    case rel=>exact⟨k+1,by omega,by go_num,by rw[HST.out,HC.out,HO.out,show c=64 from(by have:=f64;rw[beq_iff_eq]at this;exact UInt8.toNat_inj.1 (show c.toNat=64 by omega))];simp[Ka],hB2⟩
    case measure=>simp[intOf];omega
   have f64:((c.toNat:Int)==64)=false:=by rw[beq_eq_false_iff_ne];intro x;exact e64 (UInt8.toNat_inj.1 (show c.toNat=64 by omega))
   have hzz:¬9223372036854775807<o.size+1:=by have:=hq 0;omega
   have hrb:Hid (Ka dd a b i h c=⟨#[c]⟩):=by simp[Hid,Ka,e65,e66,e68,e72,e73,e64]
   clear e65 e66 e68 e72 e73 e64
   go_upto_region 9 with fail
   have hcv:=Wu wr c
   go_wp2_with fail
   go_roundw
   case rel=>exact⟨k+1,by omega,by go_num,by rw[HST.out,HC.out,HO.out,hrb.out],hbr.alloc hbr.size _⟩
   case measure=>simp[intOf];omega
theorem Ed{w w':World}{base e size n:Nat}{v:Value}{xs:List Value}(h:w.ownsRow base e size v n xs)(hb:Below w.heap.size w w'):w'.ownsRow base e size v n xs:=by
 refine⟨h.1,?_⟩;rcases h.2 with h|⟨g,cap,cur,rfl,h1,h2,h3⟩
 ·exact .inl h
 ·have hg:g<w.heap.size:=(jH.1 h2).1
  exact .inr ⟨g,cap,cur,rfl,h1,(hb.block g hg).trans h2,h3⟩
theorem Pq:(Tryz.prog.info? 5).map (fun i=>(i.zero,i.size,i.bytes))=some (some (.int .u8 0),1,1):=by kernel_rfl
theorem Ai(w:World)(o:Obj):(w.alloc o).heap[w.heap.size]?=some o:=by simp only[World.alloc];simp
theorem JW(l m:List UInt8):Lib.byteCells l++Lib.byteCells m=Lib.byteCells (l++m):=by simp[Lib.byteCells]
def Du:List (Int×Int×ByteArray):=[(0,3,⟨#[32,37,114,65,44,32,37,114,68]⟩),(0,9,⟨#[32,36,73,44,32,37,114,68]⟩),(0,7,⟨#[32,37,114,65,44,32,37,114,66,44,32,37,114,68]⟩),(0,11,⟨#[32,37,114,65,44,32,36,73,44,32,37,114,68]⟩),(0,6,⟨#[32,37,114,65,44,32,37,114,66]⟩),(0,10,⟨#[32,37,114,65,44,32,36,73]⟩),(0,27,⟨#[32,73,40,37,114,65,41,44,32,37,114,68,32,35,32,104,72]⟩),(0,59,⟨#[32,37,114,68,44,32,73,40,37,114,65,41,32,35,32,104,72]⟩),(0,23,⟨#[32,40,37,114,65,44,37,114,66,41,44,32,37,114,68,32,35,32,104,72]⟩),(0,55,⟨#[32,37,114,68,44,32,40,37,114,65,44,37,114,66,41,32,35,32,104,72]⟩),(0,8,⟨#[32,46,76,78]⟩),(0,0,⟨#[]⟩),(0,64,⟨#[46,76,78,58]⟩),(1,3,⟨#[32,114,68,44,32,114,65]⟩),(1,9,⟨#[32,114,68,44,32,73]⟩),(1,7,⟨#[32,114,68,44,32,114,65,44,32,114,66]⟩),(1,11,⟨#[32,114,68,44,32,114,65,44,32,73]⟩),(1,6,⟨#[32,114,65,44,32,114,66]⟩),(1,10,⟨#[32,114,65,44,32,73]⟩),(1,27,⟨#[32,114,68,44,32,91,114,65,32,43,32,73,93,32,59,32,104,72]⟩),(1,59,⟨#[32,91,114,65,32,43,32,73,93,44,32,114,68,32,59,32,104,72]⟩),(1,23,⟨#[32,114,68,44,32,91,114,65,32,43,32,114,66,93,32,59,32,104,72]⟩),(1,55,⟨#[32,91,114,65,32,43,32,114,66,93,44,32,114,68,32,59,32,104,72]⟩),(1,8,⟨#[32,76,78]⟩),(1,0,⟨#[]⟩),(1,64,⟨#[76,78,58]⟩)]
def Kc(d h:Int):ByteArray:=((Du.find? fun x=>x.1==d&&x.2.1==h).map fun x=>x.2.2).getD ⟨#[]⟩
def Cz(op:Int):Int:=if op=23∨op=24 then 59 else if op=27∨op=28 then 55 else Eg op
def Kw(dd a b i h:Int)(c:UInt8):ByteArray:=
 if c=68 then Cn dd else if c=65 then Cn a else if c=66 then Cn b else if c=73 then Cn i else if c=78 then Cn i else if c=72 then Cn h else⟨#[c]⟩
def Vd(d op dd a b i h:Int):ByteArray:=CG (Kw dd a b i h) (J9 op) (Kc d (Cz op)).data.toList
theorem Ls(s:ByteArray):s.toList.isEmpty=s.data.toList.isEmpty:=by rw[ByteArray.toList_eq]
theorem KJ(d op dd a b i h:Int)(h1:1<=op)(h2:op<=34)(hd:d=0∨d=1):Vd d op dd a b i h=Fb d op dd a b i h:=by
 unfold Vd Fb Nh;rw[Ls];obtain rfl|rfl|rfl|rfl|rfl|rfl|rfl|rfl|rfl|rfl|rfl|rfl|rfl|rfl|rfl|rfl|rfl|rfl|rfl|rfl|rfl|rfl|rfl|rfl|rfl|rfl|rfl|rfl|rfl|rfl|rfl|rfl|rfl|rfl:op=1∨op=2∨op=3∨op=4∨op=5∨op=6∨op=7∨op=8∨op=9∨op=10∨op=11∨op=12∨op=13∨op=14∨op=15∨op=16∨op=17∨op=18∨op=19∨op=20∨op=21∨op=22∨op=23∨op=24∨op=25∨op=26∨op=27∨op=28∨op=29∨op=30∨op=31∨op=32∨op=33∨op=34:=by omega
 all_goals(rcases hd with rfl|rfl<;>rfl)
theorem Fg(d:Int)(w:World):
 Calls Tryz.prog 14 #[Vi d] w fun e w'=>e=.returned (.bool (Ec d 0 1))/\w'=w:=by
 by_cases h0:d=0
 ·subst h0
  go_enter Tryz.func14,Tryz.ntmps14;go_wp2;go_ret;exact⟨rfl,rfl⟩
 ·have k0:(d==0)=false:=by simp[h0]
  by_cases h1:d=1
  ·subst h1
   go_enter Tryz.func14,Tryz.ntmps14;go_wp2;go_ret;exact⟨rfl,rfl⟩
  ·have k1:(d==1)=false:=by simp[h1]
   have e:Ec d 0 1=false:=by unfold Ec;simp;omega
   rw[e];clear h0 h1 e;go_enter Tryz.func14,Tryz.ntmps14;go_wp2;go_ret;exact⟨rfl,rfl⟩
theorem Kk(op:Int)(w:World):
 Calls Tryz.prog 80 #[Vi op] w fun e w'=>e=.returned (Vi (Cz op))/\w'=w:=by
 by_cases hs:op=23∨op=24∨op=27∨op=28
 ·rcases hs with rfl|rfl|rfl|rfl
  all_goals
   go_enter Tryz.func80,Tryz.ntmps80;go_wp2_with(first|(go_at_call 112;refine(I9 _ _).mono ?_;rintro e w1⟨rfl,rfl⟩));go_ret;exact⟨rfl,rfl⟩
 ·have k1:(op==23)=false:=by rw[beq_eq_false_iff_ne];omega
  have k2:(op==24)=false:=by rw[beq_eq_false_iff_ne];omega
  have k3:(op==27)=false:=by rw[beq_eq_false_iff_ne];omega
  have k4:(op==28)=false:=by rw[beq_eq_false_iff_ne];omega
  have e:Cz op=Eg op:=by unfold Cz;rw[if_neg (by omega),if_neg (by omega)]
  rw[e];clear hs e;go_enter Tryz.func80,Tryz.ntmps80;go_wp2_with(first|(go_at_call 112;refine(I9 _ _).mono ?_;rintro e w1⟨rfl,rfl⟩));go_ret;exact⟨rfl,rfl⟩
def Fj(b:Nat)(c:UInt8):Value:=if c=68 then .pointer (some ⟨b,1,none⟩)else if c=65 then .pointer (some ⟨b,2,none⟩)else if c=66 then .pointer (some ⟨b,3,none⟩)else if c=73 then .pointer (some ⟨b,4,none⟩)else if c=78 then .pointer (some ⟨b,4,none⟩)else if c=72 then .pointer (some ⟨b,5,none⟩)else .pointer none
theorem RH(b:Nat)(c:UInt8)(w:World):
 Calls Tryz.prog 110 #[Vq b,.int .u8 (c.toNat:Int)] w fun e w'=>e=.returned (Fj b c)/\w'=w:=by
 by_cases e68:c=68
 ·subst e68
  go_enter Tryz.func110,Tryz.ntmps110;go_wp2;go_ret;exact⟨rfl,rfl⟩
 have f68:((c.toNat:Int)==68)=false:=by rw[beq_eq_false_iff_ne];intro x;exact e68 (UInt8.toNat_inj.1 (show c.toNat=68 by omega))
 by_cases e65:c=65
 ·subst e65
  go_enter Tryz.func110,Tryz.ntmps110;go_wp2;go_ret;exact⟨rfl,rfl⟩
 have f65:((c.toNat:Int)==65)=false:=by rw[beq_eq_false_iff_ne];intro x;exact e65 (UInt8.toNat_inj.1 (show c.toNat=65 by omega))
 by_cases e66:c=66
 ·subst e66
  go_enter Tryz.func110,Tryz.ntmps110;go_wp2;go_ret;exact⟨rfl,rfl⟩
 have f66:((c.toNat:Int)==66)=false:=by rw[beq_eq_false_iff_ne];intro x;exact e66 (UInt8.toNat_inj.1 (show c.toNat=66 by omega))
 by_cases e73:c=73
 ·subst e73
  go_enter Tryz.func110,Tryz.ntmps110;go_wp2;go_ret;exact⟨rfl,rfl⟩
 have f73:((c.toNat:Int)==73)=false:=by rw[beq_eq_false_iff_ne];intro x;exact e73 (UInt8.toNat_inj.1 (show c.toNat=73 by omega))
 by_cases e78:c=78
 ·subst e78
  go_enter Tryz.func110,Tryz.ntmps110;go_wp2;go_ret;exact⟨rfl,rfl⟩
 have f78:((c.toNat:Int)==78)=false:=by rw[beq_eq_false_iff_ne];intro x;exact e78 (UInt8.toNat_inj.1 (show c.toNat=78 by omega))
 by_cases e72:c=72
 ·subst e72
  go_enter Tryz.func110,Tryz.ntmps110;go_wp2;go_ret;exact⟨rfl,rfl⟩
 have f72:((c.toNat:Int)==72)=false:=by rw[beq_eq_false_iff_ne];intro x;exact e72 (UInt8.toNat_inj.1 (show c.toNat=72 by omega))
 rw[Fj,if_neg e68,if_neg e65,if_neg e66,if_neg e73,if_neg e78,if_neg e72];clear e68 e65 e66 e73 e78 e72;go_enter Tryz.func110,Tryz.ntmps110;go_wp2;go_ret;exact⟨rfl,rfl⟩
end Go.Proofs.YtfpeecaaleijcaaGreatDoor
