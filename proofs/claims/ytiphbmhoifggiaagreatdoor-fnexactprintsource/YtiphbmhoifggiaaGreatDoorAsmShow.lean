import Derived.Test.YtiphbmhoifggiaaGreatDoorAsmShape
import Derived.Deep.DeepCutAuto
set_option maxHeartbeats 1600000
namespace Go.Proofs.YtiphbmhoifggiaaGreatDoor
open Go.RowKit
def rbS(dd a b i h:Int)(c:UInt8):ByteArray:=
 if c=65 then digS a else if c=66 then digS b else if c=68 then digS dd else if c=72 then digS h else if c=73 then digS i else if c=64 then digS i else⟨#[c]⟩
def rendS(f:UInt8->ByteArray)(o:ByteArray)(l:List UInt8):ByteArray:=l.foldl (fun o c=>o++f c) o
theorem rend_snoc(f:UInt8->ByteArray)(o:ByteArray)(s:ByteArray)(k:Nat)(h:k<s.size):rendS f o (s.data.toList.take (k+1))=rendS f o (s.data.toList.take k)++f s[k]:=by
 rw[take_snoc s k h];unfold rendS;rw[List.foldl_append];rfl
theorem rend_end(f:UInt8->ByteArray)(o:ByteArray)(s:ByteArray)(k:Nat)(h:s.size<=k):rendS f o (s.data.toList.take k)=rendS f o s.data.toList:=by
 rw[List.take_of_length_le (by simpa using h)]
theorem rend_size(f:UInt8->ByteArray)(m:Nat)(hf:∀c,(f c).size<=m)(l:List UInt8):∀o:ByteArray,(rendS f o l).size<=o.size+l.length*m:=by
 induction l with
 |nil=>intro o;simp[rendS]
 |cons c t ih=>
  intro o;have:=ih (o++f c);have h1:=hf c;simp only[ByteArray.size_append]at this;show(rendS f (o++f c) t).size<=_;simp only[List.length_cons,Nat.add_mul];omega
theorem ite_size{p:Prop} [Decidable p]{x y:ByteArray}{n:Nat}(h1:x.size<=n)(h2:y.size<=n):(if p then x else y).size<=n:=by split<;>assumption
theorem shpS_size(d op:Int):(shpS d op).size<=30:=by
 unfold shpS;repeat' apply ite_size
 all_goals decide
theorem nmS_size(op:Int):(nmS op).size<=10:=by
 unfold nmS;rw[List.getD_eq_getElem?_getD];rcases h:nmT[op.toNat]? with _|x
 ·decide
 ·have:∀y∈nmT,y.size<=10:=by decide
  exact this x (List.mem_of_getElem? h)
theorem conv_byte(w:World)(c:UInt8):
 (convert 30 9 (.slice (some ⟨w.heap.size,0,none⟩) 1 1)).run Tryz.prog (w.alloc (.cells #[.int .u8 (c.toNat:Int)] 5))=.ok (.string ⟨#[c]⟩) (w.alloc (.cells #[.int .u8 (c.toNat:Int)] 5)):=by
 have:=conv_one w c.toNat (by omega) (by have:=c.toNat_lt;omega);simpa using this
def begS(d op:Int):ByteArray:=if(shpS d op).toList.isEmpty=true then nmS op else nmS op++⟨#[32]⟩
def lineS(d op dd a b i h:Int):ByteArray:=rendS (rbS dd a b i h) (begS d op) (shpS d op).data.toList
theorem rb_size(dd a b i h:Int)(hd:dd.natAbs<1000001)(ha:a.natAbs<1000001)(hb:b.natAbs<1000001)(hi:i.natAbs<1000001)(hh:h.natAbs<1000001)(c:UInt8):(rbS dd a b i h c).size<=1000003:=by
 have:=digS_size dd;have:=digS_size a;have:=digS_size b;have:=digS_size i;have:=digS_size h;unfold rbS;repeat' split
 all_goals first|omega|(show 1<=1000003;omega)
theorem nm_cell(w:World)(op:Int)(h1:1<=op)(h2:op<=34):(w.alloc (.cells (nmT.map Value.string).toArray 9)).cell? ⟨w.heap.size,op.toNat,none⟩=some (.string (nmS op)):=by
 obtain rfl|rfl|rfl|rfl|rfl|rfl|rfl|rfl|rfl|rfl|rfl|rfl|rfl|rfl|rfl|rfl|rfl|rfl|rfl|rfl|rfl|rfl|rfl|rfl|rfl|rfl|rfl|rfl|rfl|rfl|rfl|rfl|rfl|rfl:op=1∨op=2∨op=3∨op=4∨op=5∨op=6∨op=7∨op=8∨op=9∨op=10∨op=11∨op=12∨op=13∨op=14∨op=15∨op=16∨op=17∨op=18∨op=19∨op=20∨op=21∨op=22∨op=23∨op=24∨op=25∨op=26∨op=27∨op=28∨op=29∨op=30∨op=31∨op=32∨op=33∨op=34:=by omega
 all_goals(simp[go_sem];rfl)
theorem show_any(op dd a b i h d:Int)(w:World)(h1:1<=op)(h2:op<=34)(hd:d=0∨d=1)(kd:dd.natAbs<1000001)(ka:a.natAbs<1000001)(kb:b.natAbs<1000001)(ki:i.natAbs<1000001)(kh:h.natAbs<1000001):
 Calls Tryz.prog 43 #[.agg #[.int .i64 op,.int .i64 dd,.int .i64 a,.int .i64 b,.int .i64 i,.int .i64 h],.int .i64 d] w fun e w'=>e=.returned (.string (lineS d op dd a b i h))/\Below w.heap.size w w':=by
 have HRB:Hid (∀c,(rbS dd a b i h c).size<=1000003):=rb_size dd a b i h kd ka kb ki kh
 have XD:Hid (∀w,Calls Tryz.prog 18 #[.int .i64 dd] w fun e w'=>e=.returned (.string (digS dd))/\Below w.heap.size w w'):=digits_any dd kd
 have XA:Hid (∀w,Calls Tryz.prog 18 #[.int .i64 a] w fun e w'=>e=.returned (.string (digS a))/\Below w.heap.size w w'):=digits_any a ka
 have XB:Hid (∀w,Calls Tryz.prog 18 #[.int .i64 b] w fun e w'=>e=.returned (.string (digS b))/\Below w.heap.size w w'):=digits_any b kb
 have XI:Hid (∀w,Calls Tryz.prog 18 #[.int .i64 i] w fun e w'=>e=.returned (.string (digS i))/\Below w.heap.size w w'):=digits_any i ki
 have XH:Hid (∀w,Calls Tryz.prog 18 #[.int .i64 h] w fun e w'=>e=.returned (.string (digS h))/\Below w.heap.size w w'):=digits_any h kh
 have XS:Hid (∀w,Calls Tryz.prog 66 #[.int .i64 op,.int .i64 d] w fun e w'=>e=.returned (.string (shpS d op))/\Below w.heap.size w w'):=fun w=>shape_any op d w h1 h2 hd
 have HD:Hid (d=0∨d=1):=hd
 clear kd ka kb ki kh hd
 go_enter Tryz.func43,Tryz.ntmps43
 go_upto_region 1 with fail
 obtain⟨u,hu,hbu,hc⟩:∃v,w.alloc (.cells #[.int .i64 op,.int .i64 dd,.int .i64 a,.int .i64 b,.int .i64 i,.int .i64 h] 97)=v/\Below w.heap.size w v/\Cl v w.heap.size [.int .i64 op,.int .i64 dd,.int .i64 a,.int .i64 b,.int .i64 i,.int .i64 h]:=⟨_,rfl,(Below.refl _ _).alloc (Nat.le_refl _) _,Cl.new⟩
 rw[hu]
 clear hu
 have huz:w.heap.size<u.heap.size:=hc.1
 have K0:∀w',Below u.heap.size u w'->w'.cell? ⟨w.heap.size,0,none⟩=some (.int .i64 op):=fun w' h=>(h.cell (p:=⟨w.heap.size,0,none⟩) huz).trans (hc.2 0 (by simp))
 have K1:∀w',Below u.heap.size u w'->w'.cell? ⟨w.heap.size,1,none⟩=some (.int .i64 dd):=fun w' h=>(h.cell (p:=⟨w.heap.size,1,none⟩) huz).trans (hc.2 1 (by simp))
 have K2:∀w',Below u.heap.size u w'->w'.cell? ⟨w.heap.size,2,none⟩=some (.int .i64 a):=fun w' h=>(h.cell (p:=⟨w.heap.size,2,none⟩) huz).trans (hc.2 2 (by simp))
 have K3:∀w',Below u.heap.size u w'->w'.cell? ⟨w.heap.size,3,none⟩=some (.int .i64 b):=fun w' h=>(h.cell (p:=⟨w.heap.size,3,none⟩) huz).trans (hc.2 3 (by simp))
 have K4:∀w',Below u.heap.size u w'->w'.cell? ⟨w.heap.size,4,none⟩=some (.int .i64 i):=fun w' h=>(h.cell (p:=⟨w.heap.size,4,none⟩) huz).trans (hc.2 4 (by simp))
 have K5:∀w',Below u.heap.size u w'->w'.cell? ⟨w.heap.size,5,none⟩=some (.int .i64 h):=fun w' h=>(h.cell (p:=⟨w.heap.size,5,none⟩) huz).trans (hc.2 5 (by simp))
 clear hc
 have HK:Hid (_/\_/\_/\_/\_/\_):=⟨K0,K1,K2,K3,K4,K5⟩
 clear K0 K1 K2 K3 K4 K5
 have c0:=HK.out.1 u (Below.refl _ _)
 go_wp2_with fail
 refine(XS.out _).mono ?_
 rintro e w1⟨rfl,hb1⟩
 clear c0
 have hB:Below w.heap.size w w1:=hbu.trans (hb1.mono hbu.size)
 obtain⟨s,hs⟩:∃s,shpS d op=s:=⟨_,rfl⟩
 have hsz:=shpS_size d op
 have HS:Hid (shpS d op=s):=hs
 rw[hs]at hsz⊢
 clear hs
 go_upto_region 2 with fail
 go_cut [6](fun s6 wx=>s6=.string (nmS op)/\Below u.heap.size u wx)
 case first=>
  have k0:=HK.out.1
  have g1:¬op<0:=by omega
  have g2:op<35:=by omega
  refine wp_region_held_drew (S:=fun w'=>Below u.heap.size u w') (by kernel_rfl) hb1.drew (fun _=>?_)
  refine wpAnyH_tk 1 ?k1v rfl ?k1y ?k1r
  case k1y=>(intro w hSw;(try dsimp only at hSw);go_simp;try with_reducible rfl)
  try go_frame
  refine wpAnyH_tk 2 ?k2v rfl ?k2y ?k2r
  case k2y=>(intro w hSw;(try dsimp only at hSw);go_simp;try with_reducible rfl)
  try go_frame
  obtain⟨u1,hu1,hbd⟩:∃v,w1.drew=v/\Below u.heap.size u v:=⟨_,rfl,hb1.drew⟩
  rw[hu1]
  clear hu1 k0
  refine wpAnyH_ready (rs:=[0]) (by kernel_rfl) (by simp) ?_
  refine AllReadyH.cons rfl (fun KK hK=>?_) AllReadyH.nil
  go_simp
  refine(names_any _).mono ?_
  rintro e w2⟨rfl,hw2⟩
  have hB2:Below u.heap.size u w2:=by rw[hw2];exact hbd.alloc hbd.size _
  have hn:=nm_cell u1 op h1 h2
  rw[<-hw2]at hn
  clear hw2
  refine hK.out _ _ hB2 (fun _=>?_)
  clear hK KK
  try simp only[Act.put,List.getElem_toArray,List.getElem_cons_zero,List.getElem_cons_succ,List.setIfInBounds_toArray,List.set_cons_zero,List.set_cons_succ]
  have g0:0<=op:=by omega
  refine wpAnyH_ready (rs:=[3]) (by kernel_rfl) (by simp) ?_
  refine AllReadyH.cons rfl (fun KK hK=>?_) AllReadyH.nil
  go_simp
  refine hK.out _ _ hB2 (fun _=>?_)
  clear hK KK
  try simp only[Act.put,List.getElem_toArray,List.getElem_cons_zero,List.getElem_cons_succ,List.setIfInBounds_toArray,List.set_cons_zero,List.set_cons_succ]
  refine wpAnyH_ready (rs:=[4]) (by kernel_rfl) (by simp) ?_
  refine AllReadyH.cons rfl (fun KK hK=>?_) AllReadyH.nil
  go_simp
  refine hK.out _ _ hB2 (fun _=>?_)
  clear hK KK
  try simp only[Act.put,List.getElem_toArray,List.getElem_cons_zero,List.getElem_cons_succ,List.setIfInBounds_toArray,List.set_cons_zero,List.set_cons_succ]
  refine wpAnyH_ready (rs:=[5]) (by kernel_rfl) (by simp) ?_
  refine AllReadyH.cons rfl (fun KK hK=>?_) AllReadyH.nil
  go_simp
  refine hK.out _ _ hB2 (fun _=>?_)
  clear hK KK
  try simp only[Act.put,List.getElem_toArray,List.getElem_cons_zero,List.getElem_cons_succ,List.setIfInBounds_toArray,List.set_cons_zero,List.set_cons_succ]
  refine wpAnyH_done (by kernel_rfl) ?_ _
  go_wp2_with fail
  go_meet
  exact⟨rfl,hB2⟩
 case rest=>
  obtain⟨rfl,hbx⟩:=hcut
  obtain⟨nm,hnm⟩:∃nm,nmS op=nm:=⟨_,rfl⟩
  have hnz:=nmS_size op
  have HNM:Hid (nmS op=nm):=hnm
  rw[hnm]at hnz⊢
  clear hnm
  have hz0:¬9223372036854775807<nm.size+1:=by omega
  go_upto_if 18 with fail
  go_cut [6](fun s6 wx=>s6=.string (begS d op)/\Below u.heap.size u wx)
  case first=>
   cases hse:s.toList.isEmpty with
   |true=>
    go_wp2_with fail
    go_meet
    exact⟨by rw[begS,HS.out,HNM.out,hse];rfl,hbx⟩
   |false=>
    go_wp2_with fail
    go_meet
    exact⟨by rw[begS,HS.out,HNM.out,hse];rfl,hbx⟩
  case rest=>
  obtain⟨rfl,hby⟩:=hcut
  obtain⟨bg,hbg⟩:∃bg,begS d op=bg:=⟨_,rfl⟩
  have hbz:bg.size<=12:=by
   rw[<-hbg]
   unfold begS
   apply ite_size
   ·rw[HNM.out];omega
   ·rw[HNM.out];simp only[ByteArray.size_append];show nm.size+1<=12;omega
  have HBG:Hid (begS d op=bg):=hbg
  rw[hbg]
  clear hbg hbx hz0
  go_wp2_with fail
  go_loopw [6,7](fun o j wr=>∃k:Nat,k<=s.size/\j=.int .i64 k/\o=.string (rendS (rbS dd a b i h) bg (s.data.toList.take k))/\Below u.heap.size u wr)(fun _ j _=>s.size-(intOf j).toNat)
  case atStart=>exact⟨0,Nat.zero_le _,rfl,rfl,hby⟩
  case round=>
   obtain⟨k,hk,rfl,rfl,hbr⟩:=hrel
   obtain⟨o,ho⟩:∃o,rendS (rbS dd a b i h) bg (s.data.toList.take k)=o:=⟨_,rfl⟩
   have hoz:o.size<=31000000:=by
    have h3:=rend_size _ _ HRB.out (s.data.toList.take k) bg
    rw[ho]at h3
    have h4:(s.data.toList.take k).length<=30:=by simp;omega
    have h5:=Nat.mul_le_mul_right 1000003 h4
    omega
   have HO:Hid (rendS (rbS dd a b i h) bg (s.data.toList.take k)=o):=ho
   rw[ho]
   clear ho
   by_cases hlt:k<s.size
   rotate_left
   ·have hge:¬(k:Int)<s.size:=by omega
    go_wp2_with fail
    go_ret
    refine⟨?_,hbu.trans (hbr.mono hbu.size)⟩
    rw[<-HO.out,rend_end _ _ _ _ (by omega)]
    simp[lineS,HBG.out,HS.out]
   have hl1:(k:Int)<s.size:=by omega
   obtain⟨c,hcc⟩:∃c,s[k]=c:=⟨_,rfl⟩
   have HC:Hid (s[k]=c):=hcc
   have HST:Hid (rendS (rbS dd a b i h) bg (s.data.toList.take (k+1))=rendS (rbS dd a b i h) bg (s.data.toList.take k)++rbS dd a b i h s[k]):=rend_snoc _ _ _ _ hlt
   have hq:∀c,o.size+(rbS dd a b i h c).size<9223372036854775807:=fun c=>by have:=HRB.out c;omega
   have HQ:Hid (∀c,o.size+(rbS dd a b i h c).size<9223372036854775807):=hq
   by_cases e65:c=65
   ·have f65:((c.toNat:Int)==65)=true:=by rw[e65];rfl
    have kf:=HK.out.2.2.1 _ hbr
    have hzz:¬9223372036854775807<o.size+(digS a).size:=by have:=hq 65;simp only[rbS]at this;simp at this;omega
    clear e65
    go_wp2_with fail
    refine(XA.out _).mono ?_
    rintro e w2⟨rfl,hb2⟩
    have hB2:Below u.heap.size u w2:=hbr.trans (hb2.mono hbr.size)
    go_wp2_with fail
    go_roundw
    case rel=>exact⟨k+1,by omega,by go_num,by rw[HST.out,HC.out,HO.out,show c=65 from(by have:=f65;rw[beq_iff_eq]at this;exact UInt8.toNat_inj.1 (show c.toNat=65 by omega))];simp[rbS],hB2⟩
    case measure=>simp[intOf];omega
   have f65:((c.toNat:Int)==65)=false:=by rw[beq_eq_false_iff_ne];intro x;exact e65 (UInt8.toNat_inj.1 (show c.toNat=65 by omega))
   by_cases e66:c=66
   ·have f66:((c.toNat:Int)==66)=true:=by rw[e66];rfl
    have kf:=HK.out.2.2.2.1 _ hbr
    have hzz:¬9223372036854775807<o.size+(digS b).size:=by have:=hq 66;simp only[rbS]at this;simp at this;omega
    clear e66
    go_wp2_with fail
    refine(XB.out _).mono ?_
    rintro e w2⟨rfl,hb2⟩
    have hB2:Below u.heap.size u w2:=hbr.trans (hb2.mono hbr.size)
    go_wp2_with fail
    go_roundw
    case rel=>exact⟨k+1,by omega,by go_num,by rw[HST.out,HC.out,HO.out,show c=66 from(by have:=f66;rw[beq_iff_eq]at this;exact UInt8.toNat_inj.1 (show c.toNat=66 by omega))];simp[rbS],hB2⟩
    case measure=>simp[intOf];omega
   have f66:((c.toNat:Int)==66)=false:=by rw[beq_eq_false_iff_ne];intro x;exact e66 (UInt8.toNat_inj.1 (show c.toNat=66 by omega))
   by_cases e68:c=68
   ·have f68:((c.toNat:Int)==68)=true:=by rw[e68];rfl
    have kf:=HK.out.2.1 _ hbr
    have hzz:¬9223372036854775807<o.size+(digS dd).size:=by have:=hq 68;simp only[rbS]at this;simp at this;omega
    clear e68
    go_wp2_with fail
    refine(XD.out _).mono ?_
    rintro e w2⟨rfl,hb2⟩
    have hB2:Below u.heap.size u w2:=hbr.trans (hb2.mono hbr.size)
    go_wp2_with fail
    go_roundw
    case rel=>exact⟨k+1,by omega,by go_num,by rw[HST.out,HC.out,HO.out,show c=68 from(by have:=f68;rw[beq_iff_eq]at this;exact UInt8.toNat_inj.1 (show c.toNat=68 by omega))];simp[rbS],hB2⟩
    case measure=>simp[intOf];omega
   have f68:((c.toNat:Int)==68)=false:=by rw[beq_eq_false_iff_ne];intro x;exact e68 (UInt8.toNat_inj.1 (show c.toNat=68 by omega))
   by_cases e72:c=72
   ·have f72:((c.toNat:Int)==72)=true:=by rw[e72];rfl
    have kf:=HK.out.2.2.2.2.2 _ hbr
    have hzz:¬9223372036854775807<o.size+(digS h).size:=by have:=hq 72;simp only[rbS]at this;simp at this;omega
    clear e72
    go_wp2_with fail
    refine(XH.out _).mono ?_
    rintro e w2⟨rfl,hb2⟩
    have hB2:Below u.heap.size u w2:=hbr.trans (hb2.mono hbr.size)
    go_wp2_with fail
    go_roundw
    case rel=>exact⟨k+1,by omega,by go_num,by rw[HST.out,HC.out,HO.out,show c=72 from(by have:=f72;rw[beq_iff_eq]at this;exact UInt8.toNat_inj.1 (show c.toNat=72 by omega))];simp[rbS],hB2⟩
    case measure=>simp[intOf];omega
   have f72:((c.toNat:Int)==72)=false:=by rw[beq_eq_false_iff_ne];intro x;exact e72 (UInt8.toNat_inj.1 (show c.toNat=72 by omega))
   by_cases e73:c=73
   ·have f73:((c.toNat:Int)==73)=true:=by rw[e73];rfl
    have kf:=HK.out.2.2.2.2.1 _ hbr
    have hzz:¬9223372036854775807<o.size+(digS i).size:=by have:=hq 73;simp only[rbS]at this;simp at this;omega
    clear e73
    go_wp2_with fail
    refine(XI.out _).mono ?_
    rintro e w2⟨rfl,hb2⟩
    have hB2:Below u.heap.size u w2:=hbr.trans (hb2.mono hbr.size)
    go_wp2_with fail
    go_roundw
    case rel=>exact⟨k+1,by omega,by go_num,by rw[HST.out,HC.out,HO.out,show c=73 from(by have:=f73;rw[beq_iff_eq]at this;exact UInt8.toNat_inj.1 (show c.toNat=73 by omega))];simp[rbS],hB2⟩
    case measure=>simp[intOf];omega
   have f73:((c.toNat:Int)==73)=false:=by rw[beq_eq_false_iff_ne];intro x;exact e73 (UInt8.toNat_inj.1 (show c.toNat=73 by omega))
   by_cases e64:c=64
   ·have f64:((c.toNat:Int)==64)=true:=by rw[e64];rfl
    have kf:=HK.out.2.2.2.2.1 _ hbr
    have hzz:¬9223372036854775807<o.size+(digS i).size:=by have:=hq 64;simp only[rbS]at this;simp at this;omega
    clear e64
    go_wp2_with fail
    refine(XI.out _).mono ?_
    rintro e w2⟨rfl,hb2⟩
    have hB2:Below u.heap.size u w2:=hbr.trans (hb2.mono hbr.size)
    go_wp2_with fail
    go_roundw
    case rel=>exact⟨k+1,by omega,by go_num,by rw[HST.out,HC.out,HO.out,show c=64 from(by have:=f64;rw[beq_iff_eq]at this;exact UInt8.toNat_inj.1 (show c.toNat=64 by omega))];simp[rbS],hB2⟩
    case measure=>simp[intOf];omega
   have f64:((c.toNat:Int)==64)=false:=by rw[beq_eq_false_iff_ne];intro x;exact e64 (UInt8.toNat_inj.1 (show c.toNat=64 by omega))
   have hzz:¬9223372036854775807<o.size+1:=by have:=hq 0;omega
   have hrb:Hid (rbS dd a b i h c=⟨#[c]⟩):=by simp[Hid,rbS,e65,e66,e68,e72,e73,e64]
   clear e65 e66 e68 e72 e73 e64
   go_upto_region 9 with fail
   have hcv:=conv_byte wr c
   go_wp2_with fail
   go_roundw
   case rel=>exact⟨k+1,by omega,by go_num,by rw[HST.out,HC.out,HO.out,hrb.out],hbr.alloc hbr.size _⟩
   case measure=>simp[intOf];omega
end Go.Proofs.YtiphbmhoifggiaaGreatDoor
