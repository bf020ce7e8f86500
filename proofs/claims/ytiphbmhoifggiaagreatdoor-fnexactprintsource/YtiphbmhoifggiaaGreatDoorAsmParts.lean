import Derived.Test.YtiphbmhoifggiaaGreatDoorAsmProg
import Derived.Test.YtiphbmhoifggiaaGreatDoorAsmLay
set_option maxHeartbeats 1600000
set_option maxRecDepth 4000
namespace Go.Proofs.YtiphbmhoifggiaaGreatDoor
open Go.RowKit
theorem heap_cell{w:World}{p:Nat}{cs:Array Value}{t:TypeId}{fz:Nat×Nat}(h:w.heap[p]?=some (.cells cs t fz))(j:Nat):w.cell? ⟨p,j,none⟩=cs[j]?:=by
 unfold World.cell?;simp only[h];rfl
theorem dig_list(x:Int):(digS x).data.toList=Lib.itoa x:=by simp[digS]
theorem dig_len(x:Int)(hx:x.natAbs<1000001):(Lib.itoa x).length<=1000003:=by
 have h1:=digS_size x;have h2:(digS x).size=(Lib.itoa x).length:=by simp[digS,ByteArray.size]
 omega
theorem rendI_snoc(f:UInt8->ByteArray)(l:List UInt8)(s:ByteArray)(k:Nat)(h:k<s.size)(x:List UInt8)(hx:(f s[k]).data.toList=x):Lib.byteCells (l++(rendS f ⟨#[]⟩ (s.data.toList.take k)).data.toList)++Lib.byteCells x=Lib.byteCells (l++(rendS f ⟨#[]⟩ (s.data.toList.take (k+1))).data.toList):=by
 rw[rend_snoc f _ s k h,app_len,<-hx];simp
theorem kept_below{e:TypeId}{b:Option Nat}{w w':World}(h:Below w.heap.size w w'):Lib.OthersKept e b w w':=fun k _ hk _ _=>(h.block k (Array.getElem?_eq_some_iff.1 hk).1).trans hk
theorem kept_row{w w' a:World}{B n:Nat}{b:Option Nat}{v:Value}{xs:List Value}(hr:w.ownsRow B 5 1 v n xs)(hg:w.grownBy w' v.ownBlock)(h:Lib.OthersKept 5 b a w):Lib.OthersKept 5 b a w':=
 h.grown hg (fun g hgg=>by
  rcases hr.2 with⟨h',_⟩|⟨g',cap,cur,h',_,h2,_⟩
  ·rw[h']at hgg;cases hgg
  ·rw[h']at hgg
   have e:g'=g:=by simpa[Value.ownBlock]using hgg
   exact⟨cur,(0,0),by rw[<-e];exact h2⟩)
theorem addParts_any(B n:Nat)(sv:Value)(l:List UInt8)(ps:ByteArray)(op dd a b i h:Int)(w:World)(hB:B<=w.heap.size)(hown:w.ownsRow B 5 1 sv n (Lib.byteCells l))(hps:ps.size<=30)(hn:n<=100000000000000)
 (kd:dd.natAbs<1000001)(ka:a.natAbs<1000001)(kb:b.natAbs<1000001)(ki:i.natAbs<1000001)(kh:h.natAbs<1000001)(htab:Lib.TabBelow Tryz.prog B w "internal/strconv.uint64pow10" .u64 Lib.pow10Tab):
 Calls Tryz.prog 81 #[sv,.string ps,.agg #[.int .i64 op,.int .i64 dd,.int .i64 a,.int .i64 b,.int .i64 i,.int .i64 h]] w fun e w'=>∃v' n',e=.returned v'/\w'.ownsRow B 5 1 v' n' (Lib.byteCells (l++(rendS (rbI dd a b i h) ⟨#[]⟩ ps.data.toList).data.toList++[10]))/\n'<=n+30000100/\Lib.OthersKept 5 none w w'/\Below B w w':=by
 have HT:Hid (Lib.TabBelow Tryz.prog B w "internal/strconv.uint64pow10" .u64 Lib.pow10Tab):=htab;have HOW:Hid (w.ownsRow B 5 1 sv n (Lib.byteCells l)):=hown;have HN:Hid (n<=100000000000000):=hn;have HKD:Hid (dd.natAbs<1000001/\a.natAbs<1000001/\b.natAbs<1000001/\i.natAbs<1000001/\h.natAbs<1000001):=⟨kd,ka,kb,ki,kh⟩
 obtain⟨iS,hi1,hi2,hi3,hi4⟩:∃i,Tryz.prog.info? 5=some i/\i.zero=some (.int .u8 0)/\i.size=1/\i.bytes=1:=by
  have:=info_u8;rcases hh:Tryz.prog.info? 5 with _|i
  ·rw[hh]at this;simp at this
  ·rw[hh]at this;simp at this;exact⟨i,rfl,this⟩
 have HI:Hid (Tryz.prog.info? 5=some iS/\iS.zero=some (.int .u8 0)/\iS.size=1/\iS.bytes=1):=⟨hi1,hi2,hi3,hi4⟩
 clear hi1 hi2 hi3 hi4 htab hown hn kd ka kb ki kh;go_enter Tryz.func81,Tryz.ntmps81;go_upto_region 1 with fail;obtain⟨u,hu,hbu,hpu⟩:∃v,w.alloc (.cells #[.int .i64 op,.int .i64 dd,.int .i64 a,.int .i64 b,.int .i64 i,.int .i64 h] 97)=v/\Below w.heap.size w v/\v.heap[w.heap.size]?=some (.cells #[.int .i64 op,.int .i64 dd,.int .i64 a,.int .i64 b,.int .i64 i,.int .i64 h] 97):=⟨_,rfl,(Below.refl _ _).alloc (Nat.le_refl _) _,heap_alloc_newB w _⟩
 rw[hu];clear hu;obtain⟨p,hp⟩:∃p,w.heap.size=p:=⟨_,rfl⟩
 have HP:Hid (w.heap.size=p):=hp;have OU:Hid (u.ownsRow B 5 1 sv n (Lib.byteCells l)):=row_belowB HOW.out hbu;have hbB:Below B w u:=hbu.mono hB;have KU:Hid (Lib.OthersKept 5 none w u):=kept_below hbu;rw[hp]at hpu⊢;have HPU:Hid (u.heap[p]?=some (.cells #[.int .i64 op,.int .i64 dd,.int .i64 a,.int .i64 b,.int .i64 i,.int .i64 h] 97)):=hpu;clear hp hpu hbu;go_wp2_with fail;go_loopw [0,7,8,11](fun v _ _ j wr=>∃k m:Nat,k<=ps.size/\j=.int .i64 k/\wr.ownsRow B 5 1 v m (Lib.byteCells (l++(rendS (rbI dd a b i h) ⟨#[]⟩ (ps.data.toList.take k)).data.toList))/\m<=n+k*1000003/\Lib.OthersKept 5 none u wr/\Below B w wr)(fun _ _ _ j _=>ps.size-(intOf j).toNat)
 case atStart=>exact⟨0,n,Nat.zero_le _,rfl,by simpa[rendS]using OU.out,by omega,Lib.OthersKept.refl _ _ _,hbB⟩
 case round=>
  obtain⟨k,m,hk,rfl,hown,hm,hpr,hbr⟩:=hrel;have OR:Hid (wr.ownsRow B 5 1 u0 m (Lib.byteCells (l++(rendS (rbI dd a b i h) ⟨#[]⟩ (ps.data.toList.take k)).data.toList))):=hown;have HM:Hid (m<=n+k*1000003):=hm;have HKP:Hid (Lib.OthersKept 5 none u wr):=hpr;have HPR:Hid (wr.heap[p]?=some (.cells #[.int .i64 op,.int .i64 dd,.int .i64 a,.int .i64 b,.int .i64 i,.int .i64 h] 97)):=hpr p _ HPU.out (by simp) (fun c fz=>by simp);have hmm:Hid (m<=100000030000090):=by have:=HN.out;show m<=100000030000090;omega
  clear hown hm hpr;have hBr:B<=wr.heap.size:=Nat.le_trans hB hbr.size;by_cases hlt:k<ps.size
  rotate_left
  ·have hge:¬(k:Int)<ps.size:=by omega
   go_upto_region 9 with fail;have hcl:=cell_one_new wr (.int .u8 10) 5;have HCL:Hid (∀j u,[Value.int .u8 10][j]?=some u->(wr.alloc (.cells #[.int .u8 10] 5)).cell? ((⟨wr.heap.size,0,none⟩:Addr).add j)=some u):=hcl;have OA:Hid ((wr.alloc (.cells #[.int .u8 10] 5)).ownsRow B 5 1 u0 m (Lib.byteCells (l++(rendS (rbI dd a b i h) ⟨#[]⟩ (ps.data.toList.take k)).data.toList))):=row_belowB OR.out ((Below.refl _ _).alloc (Nat.le_refl _) _);have hBa:B<=(wr.alloc (.cells #[.int .u8 10] 5)).heap.size:=Nat.le_trans hBr (by simp);clear hcl;go_wp2_with(first|(at_builtin;refine wpList_append_own_at _ rfl _ _ 30 rfl B 5 iS _ 1 1 Tryz.underlying30 HI.out.1 HI.out.2.1 HI.out.2.2.1 HI.out.2.2.2 rfl (by decide) u0 m _ rfl OA.out ⟨wr.heap.size,0,none⟩ 1 1 [.int .u8 10] rfl rfl HCL.out ?c2 ?c3 ?c4 hBa ?_))
   case c2=>simp[Value.oneCell']
   case c3=>have:=hmm.out;unfold maxLen;omega
   case c4=>have:=hmm.out;omega
   intro v' w4 hown4 hgrow _ _;have hB4:Below B w w4:=(hbr.alloc hBr _).grown hgrow hBa (fun k hk=>(OA.out.lt k hk).1);have O4:Hid (w4.ownsRow B 5 1 v' (m+1) (Lib.byteCells (l++(rendS (rbI dd a b i h) ⟨#[]⟩ (ps.data.toList.take k)).data.toList)++[.int .u8 10])):=hown4;have HK4:Hid (Lib.OthersKept 5 none w w4):=kept_row OA.out hgrow ((KU.out.trans HKP.out).alloc _);clear hown4 hgrow;go_wp2_with fail;go_ret;refine⟨v',m+1,rfl,?_,?_,HK4.out,hB4⟩
   ·have h9:=O4.out
    rw[rend_end _ _ _ _ (by omega)]at h9;rw[show[Value.int .u8 10]=Lib.byteCells [10]from rfl,app_len]at h9;exact h9
   ·have:=HM.out;omega
  have hl1:(k:Int)<ps.size:=by omega
  obtain⟨c,hcc⟩:∃c,ps[k]=c:=⟨_,rfl⟩
  have HC:Hid (ps[k]=c):=hcc;go_wp2_with fail;refine(fieldAt_any p c _).mono ?_;rintro e w1⟨rfl,hw1⟩;rw[hw1];clear hw1 w1;by_cases e68:c=68
  ·have hpl:placeI p c=.pointer (some ⟨p,1,none⟩):=by rw[e68];rfl
   have hrb:(rbI dd a b i h ps[k]).data.toList=Lib.itoa dd:=by rw[HC.out,e68];exact dig_list dd
   have HRB:Hid ((rbI dd a b i h ps[k]).data.toList=Lib.itoa dd):=hrb;have cf:wr.cell? ⟨p,1,none⟩=some (.int .i64 dd):=heap_cell HPR.out 1;rw[hpl];clear hpl hrb;go_wp2_with fail;have hkv:=HKD.out.1;refine(appendInt_any B m dd (by omega) (by omega) u0 _ wr OR.out hBr (by have:=hmm.out;omega) (HT.out.on hbr)).mono ?_;rintro e w2⟨v',rfl,hown2,hb2,hk2⟩;have hdl:=dig_len dd hkv;have O2:Hid (w2.ownsRow B 5 1 v' (m+(Lib.itoa dd).length) (Lib.byteCells (l++(rendS (rbI dd a b i h) ⟨#[]⟩ (ps.data.toList.take (k+1))).data.toList))):=by
    have:=hown2;rw[rendI_snoc _ _ _ _ hlt _ HRB.out]at this;exact this
   have HP2:Hid (Lib.OthersKept 5 none u w2):=HKP.out.trans hk2;have HM2:Hid (m+(Lib.itoa dd).length<=n+(k+1)*1000003):=by have:=HM.out;show _<=_;omega
   clear hown2 hk2 hkv hdl cf;go_wp2_with fail;go_roundw
   case rel=>exact⟨k+1,_,by omega,by go_num,O2.out,HM2.out,HP2.out,hbr.trans hb2⟩
   case measure=>simp[intOf];omega
  by_cases e65:c=65
  ·have hpl:placeI p c=.pointer (some ⟨p,2,none⟩):=by rw[e65];rfl
   have hrb:(rbI dd a b i h ps[k]).data.toList=Lib.itoa a:=by rw[HC.out,e65];exact dig_list a
   have HRB:Hid ((rbI dd a b i h ps[k]).data.toList=Lib.itoa a):=hrb;have cf:wr.cell? ⟨p,2,none⟩=some (.int .i64 a):=heap_cell HPR.out 2;rw[hpl];clear hpl hrb;go_wp2_with fail;have hkv:=HKD.out.2.1;refine(appendInt_any B m a (by omega) (by omega) u0 _ wr OR.out hBr (by have:=hmm.out;omega) (HT.out.on hbr)).mono ?_;rintro e w2⟨v',rfl,hown2,hb2,hk2⟩;have hdl:=dig_len a hkv;have O2:Hid (w2.ownsRow B 5 1 v' (m+(Lib.itoa a).length) (Lib.byteCells (l++(rendS (rbI dd a b i h) ⟨#[]⟩ (ps.data.toList.take (k+1))).data.toList))):=by
    have:=hown2;rw[rendI_snoc _ _ _ _ hlt _ HRB.out]at this;exact this
   have HP2:Hid (Lib.OthersKept 5 none u w2):=HKP.out.trans hk2;have HM2:Hid (m+(Lib.itoa a).length<=n+(k+1)*1000003):=by have:=HM.out;show _<=_;omega
   clear hown2 hk2 hkv hdl cf;go_wp2_with fail;go_roundw
   case rel=>exact⟨k+1,_,by omega,by go_num,O2.out,HM2.out,HP2.out,hbr.trans hb2⟩
   case measure=>simp[intOf];omega
  by_cases e66:c=66
  ·have hpl:placeI p c=.pointer (some ⟨p,3,none⟩):=by rw[e66];rfl
   have hrb:(rbI dd a b i h ps[k]).data.toList=Lib.itoa b:=by rw[HC.out,e66];exact dig_list b
   have HRB:Hid ((rbI dd a b i h ps[k]).data.toList=Lib.itoa b):=hrb;have cf:wr.cell? ⟨p,3,none⟩=some (.int .i64 b):=heap_cell HPR.out 3;rw[hpl];clear hpl hrb;go_wp2_with fail;have hkv:=HKD.out.2.2.1;refine(appendInt_any B m b (by omega) (by omega) u0 _ wr OR.out hBr (by have:=hmm.out;omega) (HT.out.on hbr)).mono ?_;rintro e w2⟨v',rfl,hown2,hb2,hk2⟩;have hdl:=dig_len b hkv;have O2:Hid (w2.ownsRow B 5 1 v' (m+(Lib.itoa b).length) (Lib.byteCells (l++(rendS (rbI dd a b i h) ⟨#[]⟩ (ps.data.toList.take (k+1))).data.toList))):=by
    have:=hown2;rw[rendI_snoc _ _ _ _ hlt _ HRB.out]at this;exact this
   have HP2:Hid (Lib.OthersKept 5 none u w2):=HKP.out.trans hk2;have HM2:Hid (m+(Lib.itoa b).length<=n+(k+1)*1000003):=by have:=HM.out;show _<=_;omega
   clear hown2 hk2 hkv hdl cf;go_wp2_with fail;go_roundw
   case rel=>exact⟨k+1,_,by omega,by go_num,O2.out,HM2.out,HP2.out,hbr.trans hb2⟩
   case measure=>simp[intOf];omega
  by_cases e73:c=73
  ·have hpl:placeI p c=.pointer (some ⟨p,4,none⟩):=by rw[e73];rfl
   have hrb:(rbI dd a b i h ps[k]).data.toList=Lib.itoa i:=by rw[HC.out,e73];exact dig_list i
   have HRB:Hid ((rbI dd a b i h ps[k]).data.toList=Lib.itoa i):=hrb;have cf:wr.cell? ⟨p,4,none⟩=some (.int .i64 i):=heap_cell HPR.out 4;rw[hpl];clear hpl hrb;go_wp2_with fail;have hkv:=HKD.out.2.2.2.1;refine(appendInt_any B m i (by omega) (by omega) u0 _ wr OR.out hBr (by have:=hmm.out;omega) (HT.out.on hbr)).mono ?_;rintro e w2⟨v',rfl,hown2,hb2,hk2⟩;have hdl:=dig_len i hkv;have O2:Hid (w2.ownsRow B 5 1 v' (m+(Lib.itoa i).length) (Lib.byteCells (l++(rendS (rbI dd a b i h) ⟨#[]⟩ (ps.data.toList.take (k+1))).data.toList))):=by
    have:=hown2;rw[rendI_snoc _ _ _ _ hlt _ HRB.out]at this;exact this
   have HP2:Hid (Lib.OthersKept 5 none u w2):=HKP.out.trans hk2;have HM2:Hid (m+(Lib.itoa i).length<=n+(k+1)*1000003):=by have:=HM.out;show _<=_;omega
   clear hown2 hk2 hkv hdl cf;go_wp2_with fail;go_roundw
   case rel=>exact⟨k+1,_,by omega,by go_num,O2.out,HM2.out,HP2.out,hbr.trans hb2⟩
   case measure=>simp[intOf];omega
  by_cases e78:c=78
  ·have hpl:placeI p c=.pointer (some ⟨p,4,none⟩):=by rw[e78];rfl
   have hrb:(rbI dd a b i h ps[k]).data.toList=Lib.itoa i:=by rw[HC.out,e78];exact dig_list i
   have HRB:Hid ((rbI dd a b i h ps[k]).data.toList=Lib.itoa i):=hrb;have cf:wr.cell? ⟨p,4,none⟩=some (.int .i64 i):=heap_cell HPR.out 4;rw[hpl];clear hpl hrb;go_wp2_with fail;have hkv:=HKD.out.2.2.2.1;refine(appendInt_any B m i (by omega) (by omega) u0 _ wr OR.out hBr (by have:=hmm.out;omega) (HT.out.on hbr)).mono ?_;rintro e w2⟨v',rfl,hown2,hb2,hk2⟩;have hdl:=dig_len i hkv;have O2:Hid (w2.ownsRow B 5 1 v' (m+(Lib.itoa i).length) (Lib.byteCells (l++(rendS (rbI dd a b i h) ⟨#[]⟩ (ps.data.toList.take (k+1))).data.toList))):=by
    have:=hown2;rw[rendI_snoc _ _ _ _ hlt _ HRB.out]at this;exact this
   have HP2:Hid (Lib.OthersKept 5 none u w2):=HKP.out.trans hk2;have HM2:Hid (m+(Lib.itoa i).length<=n+(k+1)*1000003):=by have:=HM.out;show _<=_;omega
   clear hown2 hk2 hkv hdl cf;go_wp2_with fail;go_roundw
   case rel=>exact⟨k+1,_,by omega,by go_num,O2.out,HM2.out,HP2.out,hbr.trans hb2⟩
   case measure=>simp[intOf];omega
  by_cases e72:c=72
  ·have hpl:placeI p c=.pointer (some ⟨p,5,none⟩):=by rw[e72];rfl
   have hrb:(rbI dd a b i h ps[k]).data.toList=Lib.itoa h:=by rw[HC.out,e72];exact dig_list h
   have HRB:Hid ((rbI dd a b i h ps[k]).data.toList=Lib.itoa h):=hrb;have cf:wr.cell? ⟨p,5,none⟩=some (.int .i64 h):=heap_cell HPR.out 5;rw[hpl];clear hpl hrb;go_wp2_with fail;have hkv:=HKD.out.2.2.2.2;refine(appendInt_any B m h (by omega) (by omega) u0 _ wr OR.out hBr (by have:=hmm.out;omega) (HT.out.on hbr)).mono ?_;rintro e w2⟨v',rfl,hown2,hb2,hk2⟩;have hdl:=dig_len h hkv;have O2:Hid (w2.ownsRow B 5 1 v' (m+(Lib.itoa h).length) (Lib.byteCells (l++(rendS (rbI dd a b i h) ⟨#[]⟩ (ps.data.toList.take (k+1))).data.toList))):=by
    have:=hown2;rw[rendI_snoc _ _ _ _ hlt _ HRB.out]at this;exact this
   have HP2:Hid (Lib.OthersKept 5 none u w2):=HKP.out.trans hk2;have HM2:Hid (m+(Lib.itoa h).length<=n+(k+1)*1000003):=by have:=HM.out;show _<=_;omega
   clear hown2 hk2 hkv hdl cf;go_wp2_with fail;go_roundw
   case rel=>exact⟨k+1,_,by omega,by go_num,O2.out,HM2.out,HP2.out,hbr.trans hb2⟩
   case measure=>simp[intOf];omega
  have hpl:placeI p c=.pointer none:=by rw[placeI,if_neg e68,if_neg e65,if_neg e66,if_neg e73,if_neg e78,if_neg e72]
  have HRB:Hid ((rbI dd a b i h ps[k]).data.toList=[c]):=by show _=_;rw[HC.out,rbI,if_neg e68,if_neg e65,if_neg e66,if_neg e73,if_neg e78,if_neg e72]
  rw[hpl];clear hpl e68 e65 e66 e73 e78 e72;go_upto_region 7 with fail;have HCL:Hid (∀j u,[Value.int .u8 (c.toNat:Int)][j]?=some u->(wr.alloc (.cells #[.int .u8 (c.toNat:Int)] 5)).cell? ((⟨wr.heap.size,0,none⟩:Addr).add j)=some u):=cell_one_new wr (.int .u8 (c.toNat:Int)) 5;have OA:Hid ((wr.alloc (.cells #[.int .u8 (c.toNat:Int)] 5)).ownsRow B 5 1 u0 m (Lib.byteCells (l++(rendS (rbI dd a b i h) ⟨#[]⟩ (ps.data.toList.take k)).data.toList))):=row_belowB OR.out ((Below.refl _ _).alloc (Nat.le_refl _) _);have hBa:B<=(wr.alloc (.cells #[.int .u8 (c.toNat:Int)] 5)).heap.size:=Nat.le_trans hBr (by simp);go_wp2_with(first|(at_builtin;refine wpList_append_own_at _ rfl _ _ 30 rfl B 5 iS _ 1 1 Tryz.underlying30 HI.out.1 HI.out.2.1 HI.out.2.2.1 HI.out.2.2.2 rfl (by decide) u0 m _ rfl OA.out ⟨wr.heap.size,0,none⟩ 1 1 [.int .u8 (c.toNat:Int)] rfl rfl HCL.out ?c2 ?c3 ?c4 hBa ?_))
  case c2=>simp[Value.oneCell']
  case c3=>have:=hmm.out;unfold maxLen;omega
  case c4=>have:=hmm.out;omega
  intro v' w4 hown4 hgrow _ _;have hB4:Below B w w4:=(hbr.alloc hBr _).grown hgrow hBa (fun k hk=>(OA.out.lt k hk).1);have O4:Hid (w4.ownsRow B 5 1 v' (m+1) (Lib.byteCells (l++(rendS (rbI dd a b i h) ⟨#[]⟩ (ps.data.toList.take (k+1))).data.toList))):=by
   have:=hown4;rw[show[Value.int .u8 (c.toNat:Int)]=Lib.byteCells [c]from rfl,rendI_snoc _ _ _ _ hlt _ HRB.out]at this;exact this
  have HP4:Hid (Lib.OthersKept 5 none u w4):=kept_row OA.out hgrow (HKP.out.alloc _);have HM2:Hid (m+1<=n+(k+1)*1000003):=by have:=HM.out;show _<=_;omega
  clear hown4 hgrow;go_wp2_with fail;go_roundw
  case rel=>exact⟨k+1,_,by omega,by go_num,O4.out,HM2.out,HP4.out,hB4⟩
  case measure=>simp[intOf];omega
end Go.Proofs.YtiphbmhoifggiaaGreatDoor
