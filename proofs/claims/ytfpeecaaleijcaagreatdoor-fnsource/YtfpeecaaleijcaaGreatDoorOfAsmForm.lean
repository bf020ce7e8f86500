import Derived.Test.YtfpeecaaleijcaaGreatDoorOfCl
import Derived.Test.YtfpeecaaleijcaaGreatDoorOfAsmProg
import Derived.Test.YtfpeecaaleijcaaGreatDoorOfPsLay
import Derived.WalkLawsBesides
import Derived.Deep.QuietTactic
import Derived.BigQuiet
set_option maxHeartbeats 1600000
set_option maxRecDepth 4000
namespace Go.Proofs.YtfpeecaaleijcaaGreatDoor
open Go.RowKit
variable {B:Nat}{w w':World}
theorem Ab{p:Nat}{cs:Array Value}{t:TypeId}{fz:Nat×Nat}(h:w.heap[p]?=some (.cells cs t fz))(j:Nat):w.cell? (Va p j)=cs[j]?:=by
 unfold World.cell?;simp only[h];rfl
theorem Fy(x:Int):(Cn x).data.toList=Lib.itoa x:=by simp[Cn]
theorem IQ(x:Int)(hx:x.natAbs<1000001):(Lib.itoa x).length<=1000003:=by
 have h1:=EJ x;have h2:(Cn x).size=(Lib.itoa x).length:=by simp[Cn,ByteArray.size]
 omega
theorem EH(f:UInt8->ByteArray)(l:List UInt8)(s:ByteArray)(k:Nat)(h:k<s.size)(x:List UInt8)(hx:(f s[k]).data.toList=x):Lib.byteCells (l++(CG f ⟨#[]⟩ (s.data.toList.take k)).data.toList)++Lib.byteCells x=Lib.byteCells (l++(CG f ⟨#[]⟩ (s.data.toList.take (k+1))).data.toList):=by
 rw[OQ f _ s k h,JW,<-hx];simp
theorem FO{e:TypeId}{b:Option Nat}(h:Below w.heap.size w w'):Lib.OthersKept e b w w':=fun k _ hk _ _=>(h.block k (jH.1 hk).1).trans hk
theorem Hf{a:World}{n:Nat}{b:Option Nat}{v:Value}{xs:List Value}(hr:w.ownsRow B 5 1 v n xs)(hg:w.grownBy w' v.ownBlock)(h:Lib.OthersKept 5 b a w):Lib.OthersKept 5 b a w':=
 h.grown hg (fun g hgg=>by
  rcases hr.2 with⟨h',_⟩|⟨g',cap,cur,h',_,h2,_⟩
  ·rw[h']at hgg;cases hgg
  ·rw[h']at hgg
   have e:g'=g:=by simpa[Value.ownBlock]using hgg
   exact⟨cur,(0,0),by rw[<-e];exact h2⟩)
theorem Pj(B n:Nat)(sv:Value)(l:List UInt8)(ps:ByteArray)(op dd a b i h:Int)(w:World)(hB:B<=w.heap.size)(hown:w.ownsRow B 5 1 sv n (Lib.byteCells l))(hps:ps.size<=30)(hn:n<=100000000000000)
 (kd:dd.natAbs<1000001)(ka:a.natAbs<1000001)(kb:b.natAbs<1000001)(ki:i.natAbs<1000001)(kh:h.natAbs<1000001)(htab:Lib.TabBelow Tryz.prog B w "internal/strconv.uint64pow10" .u64 Lib.pow10Tab):
 Calls Tryz.prog 78 #[sv,.string ps,.agg #[Vi op,Vi dd,Vi a,Vi b,Vi i,Vi h]] w fun e w'=>∃v' n',e=.returned v'/\w'.ownsRow B 5 1 v' n' (Lib.byteCells (l++(CG (Kw dd a b i h) ⟨#[]⟩ ps.data.toList).data.toList++[10]))/\n'<=n+30000100/\Lib.OthersKept 5 none w w'/\Below B w w':=by
 have HT:=hxy htab;have HOW:=hxy hown;have HN:=hxy hn;have HKD:Hid (dd.natAbs<1000001/\a.natAbs<1000001/\b.natAbs<1000001/\i.natAbs<1000001/\h.natAbs<1000001):=⟨kd,ka,kb,ki,kh⟩
 obtain⟨iS,hi1,hi2,hi3,hi4⟩:∃i,Tryz.prog.info? 5=some i/\i.zero=some (.int .u8 0)/\i.size=1/\i.bytes=1:=by
  have:=Pq;rcases hh:Tryz.prog.info? 5 with _|i
  ·rw[hh]at this;simp at this
  ·rw[hh]at this;simp at this;exact⟨i,rfl,this⟩
 have HI:Hid (Tryz.prog.info? 5=some iS/\iS.zero=some (.int .u8 0)/\iS.size=1/\iS.bytes=1):=⟨hi1,hi2,hi3,hi4⟩
 clear hi1 hi2 hi3 hi4 htab hown hn kd ka kb ki kh;go_enter Tryz.func78,Tryz.ntmps78;go_upto_region 1 with fail;obtain⟨u,hu,hbu,hpu⟩:∃v,w.alloc (.cells #[Vi op,Vi dd,Vi a,Vi b,Vi i,Vi h] 87)=v/\Below w.heap.size w v/\v.heap[w.heap.size]?=some (.cells #[Vi op,Vi dd,Vi a,Vi b,Vi i,Vi h] 87):=⟨_,rfl,Ak,Ai w _⟩
 rw[hu];clear hu;obtain⟨p,hp⟩:=Ae w.heap.size;have HP:=hxy hp;have OU:=hxy (Ed HOW.out hbu);have hbB:=hbu.mono hB;have KU:Hid (Lib.OthersKept 5 none w u):=FO hbu;rw[hp]at hpu⊢;have HPU:=hxy hpu;clear hp hpu hbu;go_wp2_with fail;go_loopw [0,7,8,11](fun v _ _ j wr=>∃k m:Nat,k<=ps.size/\j=Vi k/\wr.ownsRow B 5 1 v m (Lib.byteCells (l++(CG (Kw dd a b i h) ⟨#[]⟩ (ps.data.toList.take k)).data.toList))/\m<=n+k*1000003/\Lib.OthersKept 5 none u wr/\Below B w wr)(fun _ _ _ j _=>ps.size-(intOf j).toNat)
 case atStart=>exact⟨0,n,Nat.zero_le _,rfl,by simpa[CG]using OU.out,by omega,Lib.OthersKept.refl _ _ _,hbB⟩
 case round=>
  obtain⟨k,m,hk,rfl,hown,hm,hpr,hbr⟩:=hrel;have OR:=hxy hown;have HM:=hxy hm;have HKP:=hxy hpr;have HPR:Hid (wr.heap[p]?=some (.cells #[Vi op,Vi dd,Vi a,Vi b,Vi i,Vi h] 87)):=hpr p _ HPU.out (by simp) (fun c fz=>by simp);have hmm:Hid (m<=100000030000090):=by have:=HN.out;show m<=100000030000090;omega
  clear hown hm hpr;have hBr:B<=wr.heap.size:=Nat.le_trans hB hbr.size;by_cases hlt:k<ps.size
  rotate_left
  ·have hge:¬(k:Int)<ps.size:=by omega
   go_upto_region 9 with fail;have hcl:=cell_one_new wr (.int .u8 10) 5;have HCL:=hxy hcl;have OA:Hid ((wr.alloc (.cells #[.int .u8 10] 5)).ownsRow B 5 1 u0 m (Lib.byteCells (l++(CG (Kw dd a b i h) ⟨#[]⟩ (ps.data.toList.take k)).data.toList))):=Ed OR.out Ak;have hBa:B<=(wr.alloc (.cells #[.int .u8 10] 5)).heap.size:=Nat.le_trans hBr (by simp);clear hcl;go_wp2_with(first|(at_builtin;refine wpList_append_own_at _ rfl _ _ 22 rfl B 5 iS _ 1 1 Tryz.underlying22 HI.out.1 HI.out.2.1 HI.out.2.2.1 HI.out.2.2.2 rfl (by decide) u0 m _ rfl OA.out ⟨wr.heap.size,0,none⟩ 1 1 [.int .u8 10] rfl rfl HCL.out ?c2 ?c3 ?c4 hBa ?_))
   case c2=>simp[Value.oneCell']
   case c3=>have:=hmm.out;unfold maxLen;omega
   case c4=>have:=hmm.out;omega
   intro v' w4 hown4 hgrow _ _;have hB4:Below B w w4:=(hbr.alloc hBr _).grown hgrow hBa (fun k hk=>(OA.out.lt k hk).1);have O4:=hxy hown4;have HK4:Hid (Lib.OthersKept 5 none w w4):=Hf OA.out hgrow ((KU.out.trans HKP.out).alloc _);clear hown4 hgrow;go_wp2_with fail;go_ret;refine⟨v',m+1,rfl,?_,?_,HK4.out,hB4⟩
   ·have h9:=O4.out
    rw[RD _ _ _ _ (by omega)]at h9;rw[show[Value.int .u8 10]=Lib.byteCells [10]from rfl,JW]at h9;exact h9
   ·have:=HM.out;omega
  have hl1:(k:Int)<ps.size:=by omega
  obtain⟨c,hcc⟩:=Ae (ps[k]);have HC:=hxy hcc;go_wp2_with fail;refine(RH p c _).mono ?_;rintro e w1⟨rfl,hw1⟩;rw[hw1];clear hw1 w1;by_cases e68:c=68
  ·have hpl:Fj p c=.pointer (some ⟨p,1,none⟩):=by rw[e68];rfl
   have hrb:(Kw dd a b i h ps[k]).data.toList=Lib.itoa dd:=by rw[HC.out,e68];exact Fy dd
   have HRB:=hxy hrb;have cf:=Ab HPR.out 1;rw[hpl];clear hpl hrb;go_wp2_with fail;have hkv:=HKD.out.1;refine(Dl B m dd (by omega) (by omega) u0 _ wr OR.out hBr (by have:=hmm.out;omega) (HT.out.on hbr)).mono ?_;rintro e w2⟨v',rfl,hown2,hb2,hk2⟩;have hdl:=IQ dd hkv;have O2:Hid (w2.ownsRow B 5 1 v' (m+(Lib.itoa dd).length) (Lib.byteCells (l++(CG (Kw dd a b i h) ⟨#[]⟩ (ps.data.toList.take (k+1))).data.toList))):=by
    have:=hown2;rw[EH _ _ _ _ hlt _ HRB.out]at this;exact this
   have HP2:=hxy (HKP.out.trans hk2);have HM2:Hid (m+(Lib.itoa dd).length<=n+(k+1)*1000003):=by have:=HM.out;show _<=_;omega
   clear hown2 hk2 hkv hdl cf;go_wp2_with fail;go_roundw
   case rel=>exact⟨k+1,_,by omega,by go_num,O2.out,HM2.out,HP2.out,hbr.trans hb2⟩
   case measure=>simp[intOf];omega
  by_cases e65:c=65
  ·have hpl:Fj p c=.pointer (some ⟨p,2,none⟩):=by rw[e65];rfl
   have hrb:(Kw dd a b i h ps[k]).data.toList=Lib.itoa a:=by rw[HC.out,e65];exact Fy a
   have HRB:=hxy hrb;have cf:=Ab HPR.out 2;rw[hpl];clear hpl hrb;go_wp2_with fail;have hkv:=HKD.out.2.1;refine(Dl B m a (by omega) (by omega) u0 _ wr OR.out hBr (by have:=hmm.out;omega) (HT.out.on hbr)).mono ?_;rintro e w2⟨v',rfl,hown2,hb2,hk2⟩;have hdl:=IQ a hkv;have O2:Hid (w2.ownsRow B 5 1 v' (m+(Lib.itoa a).length) (Lib.byteCells (l++(CG (Kw dd a b i h) ⟨#[]⟩ (ps.data.toList.take (k+1))).data.toList))):=by
    have:=hown2;rw[EH _ _ _ _ hlt _ HRB.out]at this;exact this
   have HP2:=hxy (HKP.out.trans hk2);have HM2:Hid (m+(Lib.itoa a).length<=n+(k+1)*1000003):=by have:=HM.out;show _<=_;omega
   clear hown2 hk2 hkv hdl cf;go_wp2_with fail;go_roundw
   case rel=>exact⟨k+1,_,by omega,by go_num,O2.out,HM2.out,HP2.out,hbr.trans hb2⟩
   case measure=>simp[intOf];omega
  by_cases e66:c=66
  ·have hpl:Fj p c=.pointer (some ⟨p,3,none⟩):=by rw[e66];rfl
   have hrb:(Kw dd a b i h ps[k]).data.toList=Lib.itoa b:=by rw[HC.out,e66];exact Fy b
   have HRB:=hxy hrb;have cf:=Ab HPR.out 3;rw[hpl];clear hpl hrb;go_wp2_with fail;have hkv:=HKD.out.2.2.1;refine(Dl B m b (by omega) (by omega) u0 _ wr OR.out hBr (by have:=hmm.out;omega) (HT.out.on hbr)).mono ?_;rintro e w2⟨v',rfl,hown2,hb2,hk2⟩;have hdl:=IQ b hkv;have O2:Hid (w2.ownsRow B 5 1 v' (m+(Lib.itoa b).length) (Lib.byteCells (l++(CG (Kw dd a b i h) ⟨#[]⟩ (ps.data.toList.take (k+1))).data.toList))):=by
    have:=hown2;rw[EH _ _ _ _ hlt _ HRB.out]at this;exact this
   have HP2:=hxy (HKP.out.trans hk2);have HM2:Hid (m+(Lib.itoa b).length<=n+(k+1)*1000003):=by have:=HM.out;show _<=_;omega
   clear hown2 hk2 hkv hdl cf;go_wp2_with fail;go_roundw
   case rel=>exact⟨k+1,_,by omega,by go_num,O2.out,HM2.out,HP2.out,hbr.trans hb2⟩
   case measure=>simp[intOf];omega
  by_cases e73:c=73
  ·have hpl:Fj p c=.pointer (some ⟨p,4,none⟩):=by rw[e73];rfl
   have hrb:(Kw dd a b i h ps[k]).data.toList=Lib.itoa i:=by rw[HC.out,e73];exact Fy i
   have HRB:=hxy hrb;have cf:=Ab HPR.out 4;rw[hpl];clear hpl hrb;go_wp2_with fail;have hkv:=HKD.out.2.2.2.1;refine(Dl B m i (by omega) (by omega) u0 _ wr OR.out hBr (by have:=hmm.out;omega) (HT.out.on hbr)).mono ?_;rintro e w2⟨v',rfl,hown2,hb2,hk2⟩;have hdl:=IQ i hkv;have O2:Hid (w2.ownsRow B 5 1 v' (m+(Lib.itoa i).length) (Lib.byteCells (l++(CG (Kw dd a b i h) ⟨#[]⟩ (ps.data.toList.take (k+1))).data.toList))):=by
    have:=hown2;rw[EH _ _ _ _ hlt _ HRB.out]at this;exact this
   have HP2:=hxy (HKP.out.trans hk2);have HM2:Hid (m+(Lib.itoa i).length<=n+(k+1)*1000003):=by have:=HM.out;show _<=_;omega
   clear hown2 hk2 hkv hdl cf;go_wp2_with fail;go_roundw
   case rel=>exact⟨k+1,_,by omega,by go_num,O2.out,HM2.out,HP2.out,hbr.trans hb2⟩
   case measure=>simp[intOf];omega
  by_cases e78:c=78
  ·have hpl:Fj p c=.pointer (some ⟨p,4,none⟩):=by rw[e78];rfl
   have hrb:(Kw dd a b i h ps[k]).data.toList=Lib.itoa i:=by rw[HC.out,e78];exact Fy i
   have HRB:=hxy hrb;have cf:=Ab HPR.out 4;rw[hpl];clear hpl hrb;go_wp2_with fail;have hkv:=HKD.out.2.2.2.1;refine(Dl B m i (by omega) (by omega) u0 _ wr OR.out hBr (by have:=hmm.out;omega) (HT.out.on hbr)).mono ?_;rintro e w2⟨v',rfl,hown2,hb2,hk2⟩;have hdl:=IQ i hkv;have O2:Hid (w2.ownsRow B 5 1 v' (m+(Lib.itoa i).length) (Lib.byteCells (l++(CG (Kw dd a b i h) ⟨#[]⟩ (ps.data.toList.take (k+1))).data.toList))):=by
    have:=hown2;rw[EH _ _ _ _ hlt _ HRB.out]at this;exact this
   have HP2:=hxy (HKP.out.trans hk2);have HM2:Hid (m+(Lib.itoa i).length<=n+(k+1)*1000003):=by have:=HM.out;show _<=_;omega
   clear hown2 hk2 hkv hdl cf;go_wp2_with fail;go_roundw
   case rel=>exact⟨k+1,_,by omega,by go_num,O2.out,HM2.out,HP2.out,hbr.trans hb2⟩
   case measure=>simp[intOf];omega
  by_cases e72:c=72
  ·have hpl:Fj p c=.pointer (some ⟨p,5,none⟩):=by rw[e72];rfl
   have hrb:(Kw dd a b i h ps[k]).data.toList=Lib.itoa h:=by rw[HC.out,e72];exact Fy h
   have HRB:=hxy hrb;have cf:=Ab HPR.out 5;rw[hpl];clear hpl hrb;go_wp2_with fail;have hkv:=HKD.out.2.2.2.2;refine(Dl B m h (by omega) (by omega) u0 _ wr OR.out hBr (by have:=hmm.out;omega) (HT.out.on hbr)).mono ?_;rintro e w2⟨v',rfl,hown2,hb2,hk2⟩;have hdl:=IQ h hkv;have O2:Hid (w2.ownsRow B 5 1 v' (m+(Lib.itoa h).length) (Lib.byteCells (l++(CG (Kw dd a b i h) ⟨#[]⟩ (ps.data.toList.take (k+1))).data.toList))):=by
    have:=hown2;rw[EH _ _ _ _ hlt _ HRB.out]at this;exact this
   have HP2:=hxy (HKP.out.trans hk2);have HM2:Hid (m+(Lib.itoa h).length<=n+(k+1)*1000003):=by have:=HM.out;show _<=_;omega
   clear hown2 hk2 hkv hdl cf;go_wp2_with fail;go_roundw
   case rel=>exact⟨k+1,_,by omega,by go_num,O2.out,HM2.out,HP2.out,hbr.trans hb2⟩
   case measure=>simp[intOf];omega
  have hpl:Fj p c=.pointer none:=by rw[Fj,if_neg e68,if_neg e65,if_neg e66,if_neg e73,if_neg e78,if_neg e72]
  have HRB:Hid ((Kw dd a b i h ps[k]).data.toList=[c]):=by show _=_;rw[HC.out,Kw,if_neg e68,if_neg e65,if_neg e66,if_neg e73,if_neg e78,if_neg e72]
  rw[hpl];clear hpl e68 e65 e66 e73 e78 e72;go_upto_region 7 with fail;have HCL:Hid (∀j u,[Value.int .u8 (c.toNat:Int)][j]?=some u->(wr.alloc (.cells #[.int .u8 (c.toNat:Int)] 5)).cell? ((⟨wr.heap.size,0,none⟩:Addr).add j)=some u):=cell_one_new wr (.int .u8 (c.toNat:Int)) 5;have OA:Hid ((wr.alloc (.cells #[.int .u8 (c.toNat:Int)] 5)).ownsRow B 5 1 u0 m (Lib.byteCells (l++(CG (Kw dd a b i h) ⟨#[]⟩ (ps.data.toList.take k)).data.toList))):=Ed OR.out Ak;have hBa:B<=(wr.alloc (.cells #[.int .u8 (c.toNat:Int)] 5)).heap.size:=Nat.le_trans hBr (by simp);go_wp2_with(first|(at_builtin;refine wpList_append_own_at _ rfl _ _ 22 rfl B 5 iS _ 1 1 Tryz.underlying22 HI.out.1 HI.out.2.1 HI.out.2.2.1 HI.out.2.2.2 rfl (by decide) u0 m _ rfl OA.out ⟨wr.heap.size,0,none⟩ 1 1 [.int .u8 (c.toNat:Int)] rfl rfl HCL.out ?c2 ?c3 ?c4 hBa ?_))
  case c2=>simp[Value.oneCell']
  case c3=>have:=hmm.out;unfold maxLen;omega
  case c4=>have:=hmm.out;omega
  intro v' w4 hown4 hgrow _ _;have hB4:Below B w w4:=(hbr.alloc hBr _).grown hgrow hBa (fun k hk=>(OA.out.lt k hk).1);have O4:Hid (w4.ownsRow B 5 1 v' (m+1) (Lib.byteCells (l++(CG (Kw dd a b i h) ⟨#[]⟩ (ps.data.toList.take (k+1))).data.toList))):=by
   have:=hown4;rw[show[Value.int .u8 (c.toNat:Int)]=Lib.byteCells [c]from rfl,EH _ _ _ _ hlt _ HRB.out]at this;exact this
  have HP4:Hid (Lib.OthersKept 5 none u w4):=Hf OA.out hgrow (HKP.out.alloc _);have HM2:Hid (m+1<=n+(k+1)*1000003):=by have:=HM.out;show _<=_;omega
  clear hown4 hgrow;go_wp2_with fail;go_roundw
  case rel=>exact⟨k+1,_,by omega,by go_num,O4.out,HM2.out,HP4.out,hB4⟩
  case measure=>simp[intOf];omega
structure Fr(S:Nat->Prop)(w w':World):Prop where
 os:w'.os=w.os
 tape:w'.tape=w.tape
 output:w'.output=w.output
 size:w.heap.size<=w'.heap.size
 block:∀k,k<w.heap.size->¬S k->w'.heap[k]?=w.heap[k]?
def bF(l:List UInt8)(i:Nat):Int:=((l.getD i 0).toNat:Int)
def GN(w:World)(mb:Nat):Prop:=∃o,w.heap[mb]?=some o/\∀w':World,w'.heap[mb]?=some o->∀d h:Int,(Du.any fun x=>x.1==d&&x.2.1==h)=true->(Instr.lookup 105 (.map (some mb)) (.agg #[Vi d,Vi h]) false).run Tryz.prog w'=.ok (.agg #[.string (Kc d h)]) w'
theorem GN.below{mb:Nat}(h:GN w mb)(hb:Below B w w')(hB:mb<B):GN w' mb:=by
 obtain⟨o,h1,h2⟩:=h;exact⟨o,(hb.block mb hB).trans h1,h2⟩
structure SC(w:World)(sb nb ob mb:Nat)(d:Int):Prop where
 S:w.heap[sb]?=some (.cells #[Vi d,Vs nb 34 34,.map (some ob),.map (some mb)] 108)
 N:w.heap[nb]?=some (.cells (Ld.tail.map Value.string).toArray 9)
 M:GN w mb
theorem SC.below{sb nb ob mb:Nat}{d:Int}(p:SC w sb nb ob mb d)(hb:Below B w w')(hs:sb<B)(hn:nb<B)(hm:mb<B):SC w' sb nb ob mb d:=
 ⟨(hb.block sb hs).trans p.S,(hb.block nb hn).trans p.N,p.M.below hb hm⟩
theorem Ht(sb nb ob mb:Nat)(d h:Int)(w:World)(p:SC w sb nb ob mb d)(hf:(Du.any fun x=>x.1==d&&x.2.1==h)=true):
 Calls Tryz.prog 79 #[Vq sb,Vi h] w fun e w'=>e=.returned (.string (Kc d h))/\Below w.heap.size w w':=by
 have ls:sb<w.heap.size:=(jH.1 p.S).1;have c0:∀w',Below w.heap.size w w'->w'.cell? (Va sb 0)=some (Vi d):=fun w' hb=>(hb.cell (p:=Va sb 0) ls).trans (Ab p.S 0)
 have c3:∀w',Below w.heap.size w w'->w'.cell? (Va sb 3)=some (.map (some mb)):=fun w' hb=>(hb.cell (p:=Va sb 3) ls).trans (Ab p.S 3)
 have hl:∀w',Below w.heap.size w w'->(Instr.lookup 105 (.map (some mb)) (.agg #[Vi d,Vi h]) false).run Tryz.prog w'=.ok (.agg #[.string (Kc d h)]) w':=fun w' hb=>by
  obtain⟨o,h1,h2⟩:=p.M;exact h2 w' ((hb.block mb (jH.1 h1).1).trans h1) d h hf
 have hfd:∀w:World,(Instr.field 151 (.agg #[.string (Kc d h)]) 0).run Tryz.prog w=.ok (.string (Kc d h)) w:=fun w=>by kernel_rfl
 clear hf p;go_enter Tryz.func79,Tryz.ntmps79;go_upto_region 1 with fail;refine wp_region_held_drew (S:=fun w'=>Below w.heap.size w w') (by kernel_rfl) (Below.refl _ _).drew (fun _=>?_);refine AB 0 rfl ?_;refine AB 1 rfl ?_;refine AB 2 rfl ?_;refine AB 3 rfl ?_;refine AB 4 rfl ?_;refine AB 5 rfl ?_;refine AB 6 rfl ?_;refine AB 7 rfl ?_;refine AB 8 rfl ?_;refine AB 9 rfl ?_;refine AB 10 rfl ?_;refine AB 11 rfl ?_;refine AB 12 rfl ?_;refine wpAnyH_done (by kernel_rfl) ?_ _;go_wp2_with fail;go_ret;exact⟨rfl,(Below.refl _ _).drew⟩
theorem aD(d h:Int):(Kc d h).size<=30:=by
 unfold Kc;rcases hf:Du.find? (fun x=>x.1==d&&x.2.1==h)with _|x
 ·rw[hf];decide
 ·have h1:∀y∈Du,y.2.2.size<=30:=by decide
  rw[hf];exact h1 x (List.mem_of_find?_eq_some hf)
end Go.Proofs.YtfpeecaaleijcaaGreatDoor
