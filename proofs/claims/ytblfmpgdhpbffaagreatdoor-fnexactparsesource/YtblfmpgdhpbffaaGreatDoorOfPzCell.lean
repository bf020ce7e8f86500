import Derived.Test.YtblfmpgdhpbffaaGreatDoorOfRdTake
import Derived.Test.YtblfmpgdhpbffaaGreatDoorOfPzBody
import Derived.Test.YtblfmpgdhpbffaaGreatDoorRdNum
import Derived.Test.YtblfmpgdhpbffaaGreatDoorOfPzNum
set_option maxHeartbeats 6400000
set_option maxRecDepth 20000
namespace Go.Proofs.YtblfmpgdhpbffaaGreatDoor
open Go.RowKit
def fldG(cur:List UInt8)(l:List UInt8):List (List UInt8):=(cur++(fldS l).getD 0 [])::(fldS l).drop 1
theorem fldG_nil(l:List UInt8):fldG [] l=fldS l:=by
 unfold fldG;cases h:fldS l with
 |nil=>exact absurd h (fld_ne l)
 |cons f fs=>simp
theorem fldG_end(cur:List UInt8):fldG cur []=[cur]:=by simp[fldG,fldS]
theorem fldG_step{t:List UInt8}{i:Nat}{c:UInt8}(cur:List UInt8)(hi:i<t.length)(hc:t.getD i 0=c):fldG cur (t.drop i)=if c.toNat=32 then cur::fldG [] (t.drop (i+1))else fldG (cur++[c]) (t.drop (i+1)):=by
 have:t.drop i=c::t.drop (i+1):=by
  rw[List.drop_eq_getElem_cons hi];congr 1
  rw[<-hc,List.getD_eq_getElem?_getD,List.getElem?_eq_getElem hi];rfl
 rw[this];by_cases h:c.toNat=32
 ·have:c=32:=UInt8.toNat_inj.1 h
  subst this;rw[if_pos h,fldG_nil];unfold fldG;rw[fld_sp];simp
 ·rw[if_neg h]
  have hc':c≠32:=fun e=>h (by rw[e];rfl)
  unfold fldG;rw[show c::t.drop (i+1)=[c]++t.drop (i+1)from rfl,fld_app [c] _ (by simpa using hc')];simp
structure FZ8(w:World)(t:List UInt8)(i:Nat)(ls:List (List UInt8))(cur:List UInt8)(ov cv:Value)(v:World):Prop where
 bel:Below w.heap.size w v
 O:v.ownsRow w.heap.size 9 1 ov ls.length (lnC ls)
 C:v.ownsRow w.heap.size 5 1 cv cur.length (Lib.byteCells cur)
 L:fldS t=ls++fldG cur (t.drop i)
 n1:ls.length<=i
 n2:cur.length<=i
theorem l6Fields_any(s:ByteArray)(w:World)(hs:(s.size:Int)<=200000):
 Calls Tryz.prog 21 #[.string s] w fun e w'=>∃v,e=.returned v/\w'.ownsRow w.heap.size 9 1 v (fldS s.data.toList).length (lnC (fldS s.data.toList))/\Below w.heap.size w w':=by
 obtain⟨t,hte⟩:∃t,s.data.toList=t:=⟨_,rfl⟩
 have htl:t.length=s.size:=by rw[<-hte];simp
 have HTL:Hid (t.length=s.size):=htl;have HST0:Hid (∀k,k<s.size->∀h,s[k]'h=t.getD k 0):=(fun k hk h=>by rw[<-hte];exact str_at s k hk:∀k,k<s.size->∀h,s[k]'h=t.getD k 0)
 rw[hte];clear hte htl;obtain⟨iS,hi1,hi2,hi3,hi4⟩:∃i,Tryz.prog.info? 5=some i/\i.zero=some (.int .u8 0)/\i.size=1/\i.bytes=1:=by
  have:=info_u8;rcases hh:Tryz.prog.info? 5 with _|i
  ·rw[hh]at this;simp at this
  ·rw[hh]at this;simp at this;exact⟨i,rfl,this⟩
 have HI:Hid (Tryz.prog.info? 5=some iS/\iS.zero=some (.int .u8 0)/\iS.size=1/\iS.bytes=1):=⟨hi1,hi2,hi3,hi4⟩
 clear hi1 hi2 hi3 hi4;obtain⟨iT,hi1,hi2,hi3,hi4⟩:∃i,Tryz.prog.info? 9=some i/\i.zero=some (.string ⟨#[]⟩)/\i.size=1/\i.bytes=16:=by
  have:=info_string;rcases hh:Tryz.prog.info? 9 with _|i
  ·rw[hh]at this;simp at this
  ·rw[hh]at this;simp at this;exact⟨i,rfl,this⟩
 have HJ:Hid (Tryz.prog.info? 9=some iT/\iT.zero=some (.string ⟨#[]⟩)/\iT.size=1/\iT.bytes=16):=⟨hi1,hi2,hi3,hi4⟩
 clear hi1 hi2 hi3 hi4;have HTE:Hid ((9:Nat)≠5):=(by decide:(9:Nat)≠5)
 go_enter Tryz.func21,Tryz.ntmps21;go_upto_region 3 with fail;obtain⟨u,hu,X0⟩:∃v,(w.alloc (.cells #[] 9)).alloc (.cells #[] 5)=v/\Hid (FZ8 w t 0 [] [] (.slice (some ⟨w.heap.size,0,none⟩) 0 0) (.slice (some ⟨w.heap.size+1,0,none⟩) 0 0) v):=by
  refine⟨_,rfl,?_⟩;have h1:Below w.heap.size w (w.alloc (.cells #[] 9)):=(Below.refl _ _).alloc (Nat.le_refl _) _;have h2:Below (w.alloc (.cells #[] 9)).heap.size (w.alloc (.cells #[] 9)) ((w.alloc (.cells #[] 9)).alloc (.cells #[] 5)):=(Below.refl _ _).alloc (Nat.le_refl _) _;have e1:(w.alloc (.cells #[] 9)).heap.size=w.heap.size+1:=by simp
  refine(⟨h1.trans (h2.mono h1.size),row_belowB (row_new w 9 1 (Nat.le_refl _)) h2,?_,?_,Nat.le_refl _,Nat.le_refl _⟩:FZ8 w t 0 [] [] _ _ _)
  ·have:=row_new (w.alloc (.cells #[] 9)) 5 1 (B:=w.heap.size) (by omega)
   rw[e1]at this;exact this
  ·rw[fldG_nil];rfl
 rw[hu];clear hu;go_wp2_with fail;go_loopw [3,4,5](fun ov cv iv wr=>∃(i:Nat)(ls:List (List UInt8))(cur:List UInt8),i<=s.size/\iv=.int .i64 i/\FZ8 w t i ls cur ov cv wr)(fun _ _ iv _=>s.size-(intOf iv).toNat)
 case atStart=>exact⟨0,[],[],Nat.zero_le _,rfl,X0.out⟩
 case round=>
  clear X0;obtain⟨i,ls,cur,hi,rfl,hx⟩:=hrel;obtain⟨ao,ac,hu4⟩:=row_sl hx.O;obtain⟨co,cc,hu5⟩:=row_sl hx.C;subst hu4;subst hu5;have X:Hid (FZ8 w t i ls cur (.slice ao ls.length ac) (.slice co cur.length cc) wr):=hx;have hcv:(convert 22 9 (.slice co cur.length cc)).run Tryz.prog wr=.ok (.string (stB cur)) wr:=conv_row hx.C;have hn1:=hx.n1;have hn2:=hx.n2;have hBr:=hx.bel.size;clear hx;have OA:Hid (∀o,(wr.alloc o).ownsRow w.heap.size 9 1 (.slice ao ls.length ac) ls.length (lnC ls)):=fun o=>row_belowB X.out.O ((Below.refl _ _).alloc (Nat.le_refl _) _)
  have CA:Hid (∀o,(wr.alloc o).ownsRow w.heap.size 5 1 (.slice co cur.length cc) cur.length (Lib.byteCells cur)):=fun o=>row_belowB X.out.C ((Below.refl _ _).alloc (Nat.le_refl _) _)
  have hBa:∀o,w.heap.size<=(wr.alloc o).heap.size:=fun o=>Nat.le_trans hBr (by simp)
  have HCS:Hid (∀j u,[Value.string (stB cur)][j]?=some u->(wr.alloc (.cells #[.string (stB cur)] 9)).cell? ((⟨wr.heap.size,0,none⟩:Addr).add j)=some u):=cell_one_new wr (.string (stB cur)) 9;by_cases hlt:i<s.size
  rotate_left
  ·have hl1:¬(i:Int)<s.size:=by omega
   have HSP:Hid (fldS t=ls++[cur]):=(by
    rw[X.out.L,List.drop_eq_nil_of_le (by rw[HTL.out];omega),fldG_end]:fldS t=ls++[cur])
   go_wp2_with(first|(at_builtin;refine wpList_append_own_at _ rfl _ _ 39 rfl w.heap.size 9 iT _ 1 16 Tryz.underlying39 HJ.out.1 HJ.out.2.1 HJ.out.2.2.1 HJ.out.2.2.2 rfl (by decide) _ _ _ rfl (OA.out _) ⟨wr.heap.size,0,none⟩ 1 1 [.string (stB cur)] rfl rfl HCS.out ?c2 ?c3 ?c4 (hBa _) ?_))
   case c2=>simp[Value.oneCell']
   case c3=>unfold maxLen;omega
   case c4=>omega
   intro v' w4 hown4 hgrow _ _;have hB4:Hid (Below w.heap.size w w4):=(X.out.bel.alloc hBr _).grown hgrow (hBa _) (fun k hk=>((OA.out (.cells #[] 0)).lt k hk).1);have O4:Hid (w4.ownsRow w.heap.size 9 1 v' (ls++[cur]).length (lnC (ls++[cur]))):=(by
    rw[<-ln_app,List.length_append];exact hown4:w4.ownsRow w.heap.size 9 1 v' (ls++[cur]).length (lnC (ls++[cur])))
   clear hown4 hgrow;go_wp2_with fail;go_ret;refine⟨v',rfl,?_,hB4.out⟩;rw[HSP.out];exact O4.out
  have hl1:(i:Int)<s.size:=by omega
  obtain⟨c,hc⟩:∃c,t.getD i 0=c:=⟨_,rfl⟩
  have hcc:∀h,s[i]'h=c:=fun h=>(HST0.out i hlt h).trans hc
  have HST:Hid (fldG cur (t.drop i)=if c.toNat=32 then cur::fldG [] (t.drop (i+1))else fldG (cur++[c]) (t.drop (i+1))):=fldG_step cur (by rw[HTL.out];exact hlt) hc;clear hc;by_cases h10:c.toNat=32
  ·have e1:((c.toNat:Int)==32)=true:=by rw[h10];rfl
   have H10:Hid (c.toNat=32):=h10;clear h10;go_wp2_with(first|(at_builtin;refine wpList_append_own_at _ rfl _ _ 39 rfl w.heap.size 9 iT _ 1 16 Tryz.underlying39 HJ.out.1 HJ.out.2.1 HJ.out.2.2.1 HJ.out.2.2.2 rfl (by decide) _ _ _ rfl (OA.out _) ⟨wr.heap.size,0,none⟩ 1 1 [.string (stB cur)] rfl rfl HCS.out ?c2 ?c3 ?c4 (hBa _) ?_))
   case c2=>simp[Value.oneCell']
   case c3=>unfold maxLen;omega
   case c4=>omega
   intro v' w4 hown4 hgrow _ _;have hB4:Hid (Below w.heap.size w w4):=(X.out.bel.alloc hBr _).grown hgrow (hBa _) (fun k hk=>((OA.out (.cells #[] 0)).lt k hk).1);have O4:Hid (w4.ownsRow w.heap.size 9 1 v' (ls++[cur]).length (lnC (ls++[cur]))):=(by
    rw[<-ln_app,List.length_append];exact hown4:w4.ownsRow w.heap.size 9 1 v' (ls++[cur]).length (lnC (ls++[cur])))
   clear hown4 hgrow hcv;have N4:Hid (FZ8 w t (i+1) (ls++[cur]) [] v' (.slice (some ⟨w4.heap.size,0,none⟩) 0 0) (w4.alloc (.cells #[] 5))):=
    (⟨hB4.out.alloc hB4.out.size _,row_belowB O4.out ((Below.refl _ _).alloc (Nat.le_refl _) _),row_new w4 5 1 hB4.out.size,by rw[X.out.L,HST.out,if_pos H10.out];simp,by simp;omega,by simp⟩:FZ8 w t (i+1) (ls++[cur]) [] v' (.slice (some ⟨w4.heap.size,0,none⟩) 0 0) (w4.alloc (.cells #[] 5)))
   go_wp2_with fail;go_roundw
   case rel=>exact⟨i+1,ls++[cur],[],by omega,by go_num,N4.out⟩
   case measure=>simp[intOf];omega
  ·have e1:((c.toNat:Int)==32)=false:=by rw[beq_eq_false_iff_ne];omega
   have H10:Hid (¬c.toNat=32):=h10;clear h10;have HCL:Hid (∀j u,[Value.int .u8 (c.toNat:Int)][j]?=some u->(wr.alloc (.cells #[.int .u8 (c.toNat:Int)] 5)).cell? ((⟨wr.heap.size,0,none⟩:Addr).add j)=some u):=cell_one_new wr (.int .u8 (c.toNat:Int)) 5;go_wp2_with(first|(at_builtin;refine wpList_append_own_at _ rfl _ _ 22 rfl w.heap.size 5 iS _ 1 1 Tryz.underlying22 HI.out.1 HI.out.2.1 HI.out.2.2.1 HI.out.2.2.2 rfl (by decide) _ _ _ rfl (CA.out _) ⟨wr.heap.size,0,none⟩ 1 1 [.int .u8 (c.toNat:Int)] rfl rfl HCL.out ?c2 ?c3 ?c4 (hBa _) ?_))
   case c2=>simp[Value.oneCell']
   case c3=>unfold maxLen;omega
   case c4=>omega
   intro v' w4 hown4 hgrow _ _;have hB4:Hid (Below w.heap.size w w4):=(X.out.bel.alloc hBr _).grown hgrow (hBa _) (fun k hk=>((CA.out (.cells #[] 0)).lt k hk).1);have C4:Hid (w4.ownsRow w.heap.size 5 1 v' (cur++[c]).length (Lib.byteCells (cur++[c]))):=(by
    have e:Lib.byteCells (cur++[c])=Lib.byteCells cur++[.int .u8 (c.toNat:Int)]:=by simp[Lib.byteCells]
    rw[e,List.length_append];exact hown4:w4.ownsRow w.heap.size 5 1 v' (cur++[c]).length (Lib.byteCells (cur++[c])))
   have O4:Hid (w4.ownsRow w.heap.size 9 1 (.slice ao ls.length ac) ls.length (lnC ls)):=row_two (OA.out _) (CA.out _) HTE.out hgrow;clear hown4 hgrow hcv;have N4:Hid (FZ8 w t (i+1) ls (cur++[c]) (.slice ao ls.length ac) v' w4):=
    (⟨hB4.out,O4.out,C4.out,by rw[X.out.L,HST.out,if_neg H10.out],by omega,by simp;omega⟩:FZ8 w t (i+1) ls (cur++[c]) (.slice ao ls.length ac) v' w4)
   go_wp2_with fail;go_roundw
   case rel=>exact⟨i+1,ls,cur++[c],by omega,by go_num,N4.out⟩
   case measure=>simp[intOf];omega
def numAt13(l:List UInt8):Option (Int×Nat):=
 if pre isDg l=0∨13<pre isDg l∨(1<pre isDg l/\(l.getD 0 0).toNat=48)then none else some (valN (l.take (pre isDg l)),pre isDg l)
theorem num_bound13{l:List UInt8}{v:Int}{n:Nat}(h:numAt13 l=some (v,n)):0<=v/\v<10000000000000/\1<=n/\n<=13/\n<=l.length/\n=pre isDg l/\(v=0↔(l.getD 0 0).toNat=48):=by
 unfold numAt13 at h;split at h
 ·cases h
 ·rename_i hc
  simp only[Option.some.injEq,Prod.mk.injEq]at h;obtain⟨rfl,rfl⟩:=h;have hb:=valN_bound l (pre isDg l) (Nat.le_refl _);have hk:=pre_le isDg l;have hp:(10:Int)^(pre isDg l)<=10^13:=by
   have:(10:Int)^(pre isDg l)*10^(13-pre isDg l)=10^13:=by rw[<-Int.pow_add];congr 1;omega
   have h1:(1:Int)<=10^(13-pre isDg l):=by
    have:=Int.pow_pos (n:=10) (m:=13-pre isDg l) (by decide);omega
   have h2:(0:Int)<=10^(pre isDg l):=by
    have:=Int.pow_pos (n:=10) (m:=pre isDg l) (by decide);omega
   have:=Int.mul_le_mul_of_nonneg_left h1 h2;omega
  refine⟨hb.1,by omega,by omega,by omega,by omega,rfl,?_⟩;constructor
  ·intro hv
   by_cases h0:(l.getD 0 0).toNat=48
   ·exact h0
   ·have:=valN_pos l (by omega) h0 (pre isDg l) (by omega) (Nat.le_refl _)
    omega
  ·intro h0
   have h1:pre isDg l=1:=by omega
   rw[h1];have h2:=valN_step l 0 (by omega);rw[h2,h0];simp[valN]
def numS13(sg:Bool)(l:List UInt8):Option (Int×Nat):=
 if sg=true/\(l.head?.map UInt8.toNat)=some 45 then
  match numAt13 l.tail with
  |some (v,n)=>if v=0 then none else some (-v,n+1)
  |none=>none
 else numAt13 l
def numG13(ng:Bool)(l:List UInt8):Option (Int×Nat):=
 if ng=true then(match numAt13 l with|some (v,n)=>if v=0 then none else some (-v,n+1)|none=>none)else numAt13 l
theorem number13_any(s:ByteArray)(i:Nat)(sg:Bool)(w:World)(hs:(s.size:Int)<=200000)(hi:i<=s.size):
 Calls Tryz.prog 79 #[.string s,.int .i64 i,.bool sg,.int .i64 13] w fun e w'=>NumR (numS13 sg (s.data.toList.drop i)) i e/\w'=w:=by
 have HLL:Hid (s.data.toList.length=s.size):=(by simp:s.data.toList.length=s.size)
 go_enter Tryz.func79,Tryz.ntmps79;obtain⟨ng,hng⟩:∃ng:Bool,(sg&&decide ((s.data.toList.drop i).head?.map UInt8.toNat=some 45))=ng:=⟨_,rfl⟩
 have HNG:Hid ((sg&&decide ((s.data.toList.drop i).head?.map UInt8.toNat=some 45))=ng):=hng;clear hng;go_upto_region 3 with fail;go_cut [28](fun b wx=>wx=w/\b=.bool ng)
 case first=>
  cases sg with
  |false=>
   have e:Hid (false=ng):=(by rw[<-HNG.out];rfl:false=ng)
   go_wp2_with fail;go_meet;exact⟨rfl,congrArg Value.bool e.out⟩
  |true=>
   by_cases hlt:i<s.size
   ·have hl1:(i:Int)<s.size:=by omega
    obtain⟨c,hc⟩:∃c,s[i]=c:=⟨_,rfl⟩
    have hcc:∀h,s[i]'h=c:=fun _=>hc
    have hhd:(s.data.toList.drop i).head?.map UInt8.toNat=some c.toNat:=by
     rw[List.head?_drop,List.getElem?_eq_getElem (by rw[HLL.out];omega)];show some (s[i]).toNat=_;rw[hc]
    have HH:Hid ((s.data.toList.drop i).head?.map UInt8.toNat=some c.toNat):=hhd;clear hhd hc;have e:((c.toNat:Int)==45)=ng:=by
     rw[<-HNG.out,HH.out];by_cases h45:c.toNat=45
     ·simp[h45]
     ·have:¬(c.toNat:Int)=45:=by omega
      simp[h45,this]
    go_wp2_with fail;go_meet;exact⟨rfl,rfl⟩
   ·have hl1:¬(i:Int)<s.size:=by omega
    have e:Hid (false=ng):=(by
     rw[<-HNG.out,List.drop_eq_nil_of_le (by rw[HLL.out];omega)];rfl:false=ng)
    go_wp2_with fail;go_meet;exact⟨rfl,congrArg Value.bool e.out⟩
 case rest=>
 obtain⟨hw,rfl⟩:=hcut;rw[hw];clear hw;obtain⟨f,hfi⟩:∃f:Nat,(f:Int)=i+(if ng=true then 1 else 0):=⟨i+(if ng=true then 1 else 0),by split<;>simp⟩
 have hnum:numS13 sg (s.data.toList.drop i)=numG13 ng (s.data.toList.drop f)/\f<=s.size:=by
  have h1:=HNG.out;cases ng with
  |true=>
   simp only[Bool.and_eq_true,decide_eq_true_eq]at h1;have hf:f=i+1:=by simp at hfi;omega
   subst hf;have hlt:i<s.size:=by
    by_cases hlt:i<s.size
    ·exact hlt
    ·rw[List.drop_eq_nil_of_le (by rw[HLL.out];omega)]at h1;cases h1.2
   refine⟨?_,by omega⟩;unfold numS13 numG13;rw[if_pos h1,if_pos rfl,List.tail_drop]
  |false=>
   have hf:f=i:=by simp at hfi;omega
   subst hf;refine⟨?_,hi⟩;unfold numS13 numG13;rw[if_neg,if_neg (by simp)];intro h;rw[h.1,h.2]at h1;simp at h1
 obtain⟨hnum,hf⟩:=hnum;have HFI0:Hid ((f:Int)=i+(if ng=true then 1 else 0)):=hfi;have HN0:Hid (numS13 sg (s.data.toList.drop i)=numG13 ng (s.data.toList.drop f)):=hnum;clear hfi hnum;go_upto_if 28 with fail;go_cut [11,12](fun sv fv wx=>wx=w/\sv=.int .i64 (sgI ng)/\fv=.int .i64 f)
 case first=>
  cases ng with
  |true=>
   go_wp2_with fail;go_meet;exact⟨rfl,rfl,congrArg (Value.int .i64) (by have:=HFI0.out;simp at this;omega)⟩
  |false=>
   go_wp2_with fail;go_meet;exact⟨rfl,rfl,congrArg (Value.int .i64) (by have:=HFI0.out;simp at this;omega)⟩
 case rest=>
  obtain⟨hw,rfl,rfl⟩:=hcut;rw[hw];clear hw;have hfi:=HFI0.out;have hnum:=HN0.out;clear HFI0 HN0 HNG;obtain⟨l,hl⟩:∃l,s.data.toList.drop f=l:=⟨_,rfl⟩
  have hln:l.length=s.size-f:=by rw[<-hl,List.length_drop,HLL.out]
  have HAT:Hid (∀j,f<=j->j<s.size->∀h,s[j]'h=l.getD (j-f) 0):=fun j h0 h1 h2=>by rw[<-hl,drop_at,show f+(j-f)=j by omega];exact str_at s j h1
  rw[hl]at hnum;have HN:Hid (numS13 sg (s.data.toList.drop i)=numG13 ng l):=hnum;have HFI:Hid ((f:Int)=i+(if ng=true then 1 else 0)):=hfi;have HLN:Hid (l.length=s.size-f):=hln;have hpl:Hid (pre isDg l<=l.length):=pre_le isDg l;clear hl HLL hnum hfi hln;go_wp2_with fail;go_loopw [13,14](fun jv xv wr=>wr=w/\∃j:Nat,f<=j/\j<=s.size/\j<=f+14/\j-f<=pre isDg l/\jv=.int .i64 j/\xv=.int .i64 (valN (l.take (j-f))))(fun jv _ _=>s.size-(intOf jv).toNat)
  case atStart=>exact⟨rfl,f,Nat.le_refl _,hf,by omega,by omega,rfl,by simp[valN]⟩
  case round=>
   obtain⟨hw,j,hj0,hj1,hj2,hj3,rfl,rfl⟩:=hrel;rw[hw];clear hw;obtain⟨x,hx⟩:∃x,valN (l.take (j-f))=x:=⟨_,rfl⟩
   have hxb:0<=x/\x<=100000000000000:=by
    have:=valN_bound l (j-f) hj3;rw[hx]at this;have h10:(10:Int)^(j-f)<=10^14:=by
     have h1:(10:Int)^(j-f)*10^(14-(j-f))=10^14:=by rw[<-Int.pow_add];congr 1;omega
     have h2:=Int.pow_pos (n:=10) (m:=14-(j-f)) (by decide);have h3:=Int.pow_pos (n:=10) (m:=j-f) (by decide);have h4:=Int.mul_le_mul_of_nonneg_left (show(1:Int)<=10^(14-(j-f))by omega) (show(0:Int)<=10^(j-f)by omega);omega
    omega
   have HX:Hid (valN (l.take (j-f))=x):=hx;have HP3:Hid (j-f<=pre isDg l):=hj3;rw[hx];clear hx hj3;obtain⟨lc,hlc⟩:∃lc,(decide (j<s.size)&&isDg (l.getD (j-f) 0)&&decide (j-f<=13))=lc:=⟨_,rfl⟩
   have HLC:Hid ((decide (j<s.size)&&isDg (l.getD (j-f) 0)&&decide (j-f<=13))=lc):=hlc;clear hlc;go_upto_region 8 with fail;go_cut [54](fun b wx=>wx=w/\b=.bool lc)
   case first=>
    by_cases hlt:j<s.size
    ·have hl1:(j:Int)<s.size:=by omega
     obtain⟨c,hc⟩:∃c,l.getD (j-f) 0=c:=⟨_,rfl⟩
     have hcc:∀h,s[j]'h=c:=fun h=>(HAT.out j hj0 hlt h).trans hc
     have HC:Hid (l.getD (j-f) 0=c):=hc;clear hc;by_cases h48:48<=c.toNat
     ·have k48:(48:Int)<=(c.toNat:Int):=by omega
      by_cases h57:c.toNat<=57
      ·have k57:(c.toNat:Int)<=57:=by omega
       have e:decide ((j:Int)-f<=13)=lc:=by
        have:=HLC.out;rw[HC.out]at this;simp[isDg,hlt,h48,h57]at this;rw[<-this];simp;omega
       go_wp2_with fail;go_meet;exact⟨rfl,rfl⟩
      ·have k57:¬(c.toNat:Int)<=57:=by omega
       have e:Hid (false=lc):=(by
        have:=HLC.out;rw[HC.out]at this;simp[isDg,h57]at this;exact this.symm:false=lc)
       go_wp2_with fail;go_meet;exact⟨rfl,congrArg Value.bool e.out⟩
     ·have k48:¬(48:Int)<=(c.toNat:Int):=by omega
      have e:Hid (false=lc):=(by
       have:=HLC.out;rw[HC.out]at this;simp[isDg,h48]at this;exact this.symm:false=lc)
      go_wp2_with fail;go_meet;exact⟨rfl,congrArg Value.bool e.out⟩
    ·have hl1:¬(j:Int)<s.size:=by omega
     have e:Hid (false=lc):=(by
      have:=HLC.out;simp[hlt]at this;exact this.symm:false=lc)
     go_wp2_with fail;go_meet;exact⟨rfl,congrArg Value.bool e.out⟩
   case rest=>
    obtain⟨hw,rfl⟩:=hcut;rw[hw];clear hw;cases lc with
    |true=>
     have h1:=HLC.out;simp only[Bool.and_eq_true,decide_eq_true_eq]at h1;obtain⟨⟨hlt,hdg⟩,h9⟩:=h1;obtain⟨c,hc⟩:∃c,l.getD (j-f) 0=c:=⟨_,rfl⟩
     have hcc:∀h,s[j]'h=c:=fun h=>(HAT.out j hj0 hlt h).trans hc
     have HC:Hid (l.getD (j-f) 0=c):=hc;have hcb:48<=c.toNat/\c.toNat<=57:=by rw[hc]at hdg;simpa[isDg]using hdg
     have HD:Hid (isDg (l.getD (j-f) 0)=true):=hdg;have hl1:(j:Int)<s.size:=by omega
     have w1:IntKind.u8.wrap ((c.toNat:Int)-48)=(c.toNat:Int)-48:=u8_id (by omega) (by omega);have w2:IntKind.i64.wrap (10*x)=10*x:=i64_idR (by omega) (by omega);have w3:IntKind.i64.wrap ((c.toNat:Int)-48)=(c.toNat:Int)-48:=i64_idR (by omega) (by omega);have w4:IntKind.i64.wrap (10*x+((c.toNat:Int)-48))=10*x+((c.toNat:Int)-48):=i64_idR (by omega) (by omega);clear hc hdg HLC;go_wp2_with fail;go_roundw
     case rel=>
      have hpl':=hpl.out;have hln:=HLN.out;refine⟨trivial,j+1,by omega,by omega,by omega,?_,by go_num,?_⟩
      ·have:=(pre_step isDg l (j-f) HP3.out (by omega)).1 HD.out
       omega
      ·rw[show j+1-f=(j-f)+1 by omega,valN_step l (j-f) (by omega),HX.out,HC.out]
       congr 1
       omega
     case measure=>simp[intOf];omega
    |false=>
     obtain⟨k,hk⟩:∃k:Nat,j-f=k:=⟨_,rfl⟩
     have HK:Hid (j=f+k):=(by omega:j=f+k)
     have hkp:(k<=13/\pre isDg l=k)∨(k=14/\14<=pre isDg l):=by
      have hpl':=hpl.out;have hln:=HLN.out;have h3:=HP3.out;have h4:=HLC.out;rw[hk]at h3 h4;by_cases h9:k<=13
      ·left
       refine⟨h9,?_⟩;by_cases hlt:j<s.size
       ·simp[hlt,h9]at h4
        exact(pre_step isDg l k h3 (by omega)).2 h4
       ·omega
      ·right;omega
     have HKP:Hid ((k<=13/\pre isDg l=k)∨(k=14/\14<=pre isDg l)):=hkp;have k10:k<=14:=by omega
     have HX2:Hid (valN (l.take k)=x):=(by rw[<-hk];exact HX.out:valN (l.take k)=x)
     clear hkp HLC HX HP3;obtain⟨bd,hbd⟩:∃bd,(decide (k=0)||decide (13<k)||(decide ((l.getD 0 0).toNat=48)&&(decide (1<k)||ng)))=bd:=⟨_,rfl⟩
     have HBD:Hid ((decide (k=0)||decide (13<k)||(decide ((l.getD 0 0).toNat=48)&&(decide (1<k)||ng)))=bd):=hbd;clear hbd hk;go_upto_region 11 with fail;go_cut [90](fun b wx=>wx=w/\b=.bool bd)
     case first=>
      by_cases h0:k=0
      ·have e0:((j:Int)==f)=true:=by have:=HK.out;rw[beq_iff_eq];omega
       have e:Hid (true=bd):=(by rw[<-HBD.out];simp[h0]:true=bd)
       go_wp2_with fail;go_meet;exact⟨rfl,congrArg Value.bool e.out⟩
      have e0:((j:Int)==f)=false:=by have:=HK.out;rw[beq_eq_false_iff_ne];omega
      by_cases h9:13<k
      ·have e1:(13:Int)<(j:Int)-f:=by have:=HK.out;omega
       have e:Hid (true=bd):=(by rw[<-HBD.out];simp[h9]:true=bd)
       go_wp2_with fail;go_meet;exact⟨rfl,congrArg Value.bool e.out⟩
      have e1:¬(13:Int)<(j:Int)-f:=by have:=HK.out;omega
      have hf1:f<s.size:=by have:=HK.out;omega
      have hf2:(f:Int)<s.size:=by omega
      obtain⟨c,hc⟩:∃c,l.getD 0 0=c:=⟨_,rfl⟩
      have hcc:∀h,s[f]'h=c:=fun h=>((HAT.out f (Nat.le_refl _) hf1 h).trans (by rw[Nat.sub_self])).trans hc
      have HC:Hid (l.getD 0 0=c):=hc;clear hc;by_cases h48:c.toNat=48
      ·have e2:((c.toNat:Int)==48)=true:=by rw[h48];rfl
       by_cases h1:1<k
       ·have e3:(1:Int)<(j:Int)-f:=by have:=HK.out;omega
        have e:Hid (true=bd):=(by rw[<-HBD.out,HC.out];simp[h48,h1]:true=bd)
        go_wp2_with fail;go_meet;exact⟨rfl,congrArg Value.bool e.out⟩
       ·have e3:¬(1:Int)<(j:Int)-f:=by have:=HK.out;omega
        have e:Hid (ng=bd):=(by rw[<-HBD.out,HC.out];simp[h48,h1,h0,h9]:ng=bd)
        cases ng with
        |true=>
         have e4:sgI true<0:=by decide
         go_wp2_with fail;go_meet;exact⟨rfl,congrArg Value.bool e.out⟩
        |false=>
         have e4:¬sgI false<0:=by decide
         go_wp2_with fail;go_meet;exact⟨rfl,congrArg Value.bool e.out⟩
      ·have e2:((c.toNat:Int)==48)=false:=by rw[beq_eq_false_iff_ne];omega
       have e:Hid (false=bd):=(by rw[<-HBD.out,HC.out];simp[h48,h0,h9]:false=bd)
       go_wp2_with fail;go_meet;exact⟨rfl,congrArg Value.bool e.out⟩
     case rest=>
      obtain⟨hw,rfl⟩:=hcut;rw[hw];clear hw;cases bd with
      |true=>
       have hno:numG13 ng l=none:=by
        have h1:=HBD.out;have h2:=HKP.out;simp only[Bool.or_eq_true,Bool.and_eq_true,decide_eq_true_eq]at h1;cases hna:numAt13 l with
        |none=>unfold numG13;rw[hna];split<;>rfl
        |some p=>
         obtain⟨v,n⟩:=p;obtain⟨b0,b1,b2,b3,b4,b5,b6⟩:=num_bound13 hna;have hkn:k=n:=by omega
         have h48:(l.getD 0 0).toNat=48:=by omega
         have hng:ng=true:=by
          rcases h1 with h1|h1
          ·omega
          ·rcases h1.2 with h3|h3
           ·exfalso
            unfold numAt13 at hna;rw[if_pos (by right;right;exact⟨by omega,h48⟩)]at hna;cases hna
           ·exact h3
         unfold numG13;rw[hna,hng,if_pos rfl];simp only;rw[if_pos (b6.2 h48)]
       have HNO:Hid (numS13 sg (s.data.toList.drop i)=none):=(HN.out.trans hno:numS13 sg (s.data.toList.drop i)=none)
       clear hno;go_wp2_with fail;go_ret3;refine⟨?_,rfl⟩;rw[HNO.out];exact⟨_,rfl⟩
      |false=>
       have hyes:numG13 ng l=some (sgI ng*x,k+(if ng=true then 1 else 0))/\k<=13:=by
        have h1:=HBD.out;have h2:=HKP.out;simp only[Bool.or_eq_false_iff,Bool.and_eq_false_iff,decide_eq_false_iff_not]at h1;have hk9:pre isDg l=k:=by omega
        have hna:numAt13 l=some (x,k):=by
         unfold numAt13;rw[hk9,if_neg,HX2.out];intro h;rcases h with h|h|h
         ·omega
         ·omega
         ·rcases h1.2 with h3|h3
          ·exact h3 h.2
          ·exact h3.1 h.1
        obtain⟨b0,b1,b2,b3,b4,b5,b6⟩:=num_bound13 hna;refine⟨?_,by omega⟩;unfold numG13;rw[hna];cases ng with
        |true=>
         simp only[if_true];rw[if_neg]
         ·congr 2;unfold sgI;simp
         ·intro hv
          have:=b6.1 hv;rcases h1.2 with h3|h3
          ·exact h3 this
          ·simp at h3
        |false=>simp[sgI]
       have HY:Hid (numS13 sg (s.data.toList.drop i)=some (sgI ng*x,k+(if ng=true then 1 else 0))):=(HN.out.trans hyes.1:numS13 sg (s.data.toList.drop i)=some (sgI ng*x,k+(if ng=true then 1 else 0)))
       clear hyes;have w5:IntKind.i64.wrap (sgI ng*x)=sgI ng*x:=by cases ng<;>(simp[sgI];rw[IntKind.wrap_i64];omega)
       go_wp2_with fail;go_ret3;refine⟨?_,rfl⟩;rw[HY.out];show _=_;have e:(j:Int)=(i:Int)+((k+(if ng=true then 1 else 0):Nat):Int):=by
        have h1:=HFI.out;have h2:=HK.out;cases ng with
        |true=>simp at h1⊢;omega
        |false=>simp at h1⊢;omega
       rw[<-e];rfl
theorem numAt13_word(l:List UInt8):(match numAt13 l with|some (v,n)=>if n=l.length then some v else none|none=>none)=numD l:=by
 unfold numAt13 numD;by_cases hp:pre isDg l=l.length
 ·rw[hp]
  by_cases hc:l.length=0∨13<l.length∨(1<l.length/\(l.getD 0 0).toNat=48)
  ·rw[if_pos hc,if_neg]
   rintro⟨h1,h2,_,h4⟩;rcases hc with h|h|h
   ·exact h1 (List.length_eq_zero_iff.1 h)
   ·omega
   ·exact h4 h.1 h.2
  ·rw[if_neg hc,if_pos]
   ·simp only[if_true,List.take_length]
   ·exact⟨fun e=>hc (.inl (by rw[e];rfl)),by omega,rfl,fun h1 h2=>hc (.inr (.inr ⟨h1,h2⟩))⟩
 ·rw[if_neg (c:=l≠[]/\_) (fun h=>hp h.2.2.1)]
  split
  ·rename_i v n h
   split at h
   ·cases h
   ·simp only[Option.some.injEq,Prod.mk.injEq]at h
    rw[if_neg (by omega)]
  ·rfl
theorem numW_13(sg:Bool)(l:List UInt8):(match numS13 sg l with|some (v,n)=>if n=l.length then some v else none|none=>none)=numW sg l:=by
 unfold numS13 numW;by_cases hc:sg=true/\l.head?.map UInt8.toNat=some 45
 ·rw[if_pos hc,if_pos hc,<-numAt13_word l.tail]
  cases l with
  |nil=>simp at hc
  |cons c l=>
   show _=(match(match numAt13 l with|some (v,n)=>if n=l.length then some v else none|none=>none)with|some v=>if v=0 then none else some (-v)|none=>none);show(match(match numAt13 l with|some (v,n)=>if v=0 then none else some (-v,n+1)|none=>none)with|some (v,n)=>if n=(c::l).length then some v else none|none=>none)=_;cases numAt13 l with
   |none=>rfl
   |some p=>
    obtain⟨v,n⟩:=p;by_cases hv:v=0
    ·by_cases hn:n=l.length<;>simp[hv,hn]
    ·by_cases hn:n=l.length<;>simp[hv,hn]
 ·rw[if_neg hc,if_neg hc,numAt13_word]
def WrdR(r:Option Int)(e:Ending):Prop:=
 match r with
 |some v=>e=.returned (.tuple #[.bool true,.int .i64 v])
 |none=>∃j:Int,e=.returned (.tuple #[.bool false,.int .i64 j])
theorem WrdR.form{r:Option Int}{e:Ending}(h:WrdR r e):∃j:Int,e=.returned (.tuple #[.bool r.isSome,.int .i64 j])/\∀v,r=some v->j=v:=by
 cases r with
 |some v=>exact⟨v,h,fun _ e=>Option.some.inj e⟩
 |none=>obtain⟨j,h⟩:=h;exact⟨j,h,fun _ e=>by cases e⟩
theorem l6Number_any(s:ByteArray)(sg:Bool)(w:World)(hs:(s.size:Int)<=200000):
 Calls Tryz.prog 46 #[.string s,.bool sg] w fun e w'=>WrdR (numW sg s.data.toList) e/\w'=w:=by
 have HL:Hid (s.data.toList.length=s.size):=(by simp:s.data.toList.length=s.size)
 have HW:Hid ((match numS13 sg s.data.toList with|some (v,n)=>if n=s.data.toList.length then some v else none|none=>none)=numW sg s.data.toList):=numW_13 sg _;go_enter Tryz.func46,Tryz.ntmps46;go_wp2_with fail;refine(number13_any s 0 sg w hs (Nat.zero_le _)).mono ?_;rintro e w1⟨he,hw⟩;rw[hw];clear hw;rw[List.drop_zero]at he;cases hr:numS13 sg s.data.toList with
 |none=>
  rw[hr]at he;obtain⟨j,rfl⟩:=he;have HR:Hid (numW sg s.data.toList=none):=(by rw[<-HW.out,hr]:numW sg s.data.toList=none)
  clear hr;go_wp2_with fail;go_ret2;refine⟨?_,rfl⟩;rw[HR.out];exact⟨_,rfl⟩
 |some p=>
  obtain⟨v,n⟩:=p;rw[hr]at he;have he':e=.returned (.tuple #[.bool true,.int .i64 v,.int .i64 ((0:Nat)+n:Int)]):=he;rw[he',show((0:Nat):Int)+(n:Int)=(n:Int)by omega];have HR:Hid ((if n=s.size then some v else none)=numW sg s.data.toList):=(by rw[<-HW.out,hr];simp only;rw[HL.out]:(if n=s.size then some v else none)=numW sg s.data.toList)
  clear he he' hr;by_cases hn:n=s.size
  ·have e1:((n:Int)==(s.size:Int))=true:=by rw[beq_iff_eq];omega
   have HR2:Hid (numW sg s.data.toList=some v):=(by rw[<-HR.out,if_pos hn]:numW sg s.data.toList=some v)
   clear hn;go_wp2_with fail;go_ret2;refine⟨?_,rfl⟩;rw[HR2.out];rfl
  ·have e1:((n:Int)==(s.size:Int))=false:=by rw[beq_eq_false_iff_ne];omega
   have HR2:Hid (numW sg s.data.toList=none):=(by rw[<-HR.out,if_neg hn]:numW sg s.data.toList=none)
   clear hn;go_wp2_with fail;go_ret2;refine⟨?_,rfl⟩;rw[HR2.out];exact⟨_,rfl⟩
structure Sl where
 a:Option Addr
 n:Nat
 c:Nat
def ovL(o:OV):List Value:=[.int .i64 (o.at':Int),.int .i64 o.th,.bool o.els]
def exM(S:PS)(vN vO:Value):List Rw:=[⟨4,1,vN,S.gv.length,S.gv.map .bool⟩,⟨96,3,vO,S.op.length,S.op.reverse.flatMap ovL⟩]
def tsM:List TypeId:=[88,47,4,96,68,93]
structure MS(w:World)(B:Nat)(S:PS)(sH sR sP sN sO:Sl)(bv:List Value):Prop where
 R:Rws w B (srcR (exM S (.slice sN.a sN.n sN.c) (.slice sO.a sO.n sO.c)) S.hs S.rg S.ps (.slice sH.a sH.n sH.c) (.slice sR.a sR.n sR.c) (.slice sP.a sP.n sP.c) bv)
 L:bv.length=S.ps.length
 I:Inv S
structure MS0(w:World)(B:Nat)(S:PS)(sH sR sP sN sO:Sl)(bv:List Value):Prop where
 R:Rws w B (srcR (exM S (.slice sN.a sN.n sN.c) (.slice sO.a sO.n sO.c)) S.hs S.rg S.ps (.slice sH.a sH.n sH.c) (.slice sR.a sR.n sR.c) (.slice sP.a sP.n sP.c) bv)
 L:bv.length=S.ps.length
theorem MS.m0{w:World}{B:Nat}{S:PS}{sH sR sP sN sO:Sl}{bv:List Value}(h:MS w B S sH sR sP sN sO bv):MS0 w B S sH sR sP sN sO bv:=⟨h.R,h.L⟩
theorem MS0.below{w w':World}{B:Nat}{S:PS}{sH sR sP sN sO:Sl}{bv:List Value}(h:MS0 w B S sH sR sP sN sO bv)(hb:Below w.heap.size w w'):MS0 w' B S sH sR sP sN sO bv:=⟨h.R.below hb,h.L⟩
theorem MS.below{w w':World}{B:Nat}{S:PS}{sH sR sP sN sO:Sl}{bv:List Value}(h:MS w B S sH sR sP sN sO bv)(hb:Below w.heap.size w w'):MS w' B S sH sR sP sN sO bv:=⟨h.R.below hb,h.L,h.I⟩
theorem srcR_typ{ex:List Rw}{hs:List HS}{rg:List VV}{PL:List (List SV)}{vH vR vP:Value}{bv:List Value}{ts:List TypeId}(he:∀r∈ex,r.t∈ts)(h1:88∈ts)(h2:47∈ts)(h3:68∈ts)(h4:93∈ts)(j:Nat)(r:Rw)(hr:(srcR ex hs rg PL vH vR vP bv)[j]?=some r):r.t∈ts:=by
 have hm:=List.mem_of_getElem? hr;unfold srcR at hm;rcases List.mem_append.1 hm with hm|hm
 ·exact he r hm
 ·rcases List.mem_cons.1 hm with rfl|hm
  ·exact h1
  ·rcases List.mem_cons.1 hm with rfl|hm
   ·exact h2
   ·rcases List.mem_cons.1 hm with rfl|hm
    ·exact h3
    ·unfold bodR at hm
     obtain⟨i,hi,rfl⟩:=List.mem_iff_getElem.1 hm;rw[List.getElem_zipWith];exact h4
theorem Rws.typ{w w':World}{B:Nat}{rs:List Rw}{ts:List TypeId}(h:Rws w B rs)(ht:∀(j:Nat)(r:Rw),rs[j]?=some r->r.t∈ts)(hk:∀(q:Nat)(c:Array Value)(t:TypeId)(f:Nat×Nat),w.heap[q]?=some (.cells c t f)->t∈ts->w'.heap[q]?=w.heap[q]?):Rws w' B rs:=
 h.keep fun j r k hr hkk=>by
  have ho:=h.own j r hr;rcases ho.2 with⟨h',_⟩|⟨g,cap,cur,h',_,hh,_⟩
  ·rw[h']at hkk;cases hkk
  ·rw[h']at hkk
   have:g=k:=Option.some.inj hkk;subst this;exact hk g _ _ _ hh (ht j r hr)
theorem exM_typ(S:PS)(vN vO:Value):∀r∈exM S vN vO,r.t∈tsM:=by
 intro r hr;simp only[exM,List.mem_cons,List.not_mem_nil,or_false]at hr;rcases hr with rfl|rfl
 ·exact(by decide:4∈tsM)
 ·exact(by decide:96∈tsM)
theorem MS.typ{w:World}{B:Nat}{S:PS}{sH sR sP sN sO:Sl}{bv:List Value}(_h:MS w B S sH sR sP sN sO bv)(j:Nat)(r:Rw)(hr:(srcR (exM S (.slice sN.a sN.n sN.c) (.slice sO.a sO.n sO.c)) S.hs S.rg S.ps (.slice sH.a sH.n sH.c) (.slice sR.a sR.n sR.c) (.slice sP.a sP.n sP.c) bv)[j]?=some r):r.t∈tsM:=
 srcR_typ (exM_typ S _ _) (by decide) (by decide) (by decide) (by decide) j r hr
def MR(B:Nat)(w:World)(r:Option PS)(e:Ending)(w':World):Prop:=
 Fm tsM B w w'/\match r with
 |some S=>∃(sH sR sP sN sO:Sl)(bv:List Value),e=.returned (.agg #[.int .i64 S.d,.slice sH.a sH.n sH.c,.slice sR.a sR.n sR.c,.slice sP.a sP.n sP.c,.int .i64 (S.st:Int),.slice sN.a sN.n sN.c,.slice sO.a sO.n sO.c,.bool false])/\MS w' B S sH sR sP sN sO bv
 |none=>∃(d st:Int)(sH sR sP sN sO:Sl),e=.returned (.agg #[.int .i64 d,.slice sH.a sH.n sH.c,.slice sR.a sR.n sR.c,.slice sP.a sP.n sP.c,.int .i64 st,.slice sN.a sN.n sN.c,.slice sO.a sO.n sO.c,.bool true])
structure PX(x y:Nat)(cs rs:Array Value)(u:World):Prop where
 P:u.heap[x]?=some (.cells cs 45)
 R:u.heap[y]?=some (.cells rs 45)
 ne:x≠y
theorem part_no(c:Array Value)(t:TypeId)(fz:Nat×Nat)(c':Array Value)(e:Obj.cells c' 45=Obj.cells c t fz):t∉tsM:=by
 have:45=t:=(Obj.cells.inj e).2.1;subst this;decide
theorem PX.fm{x y:Nat}{cs rs:Array Value}{B:Nat}{u v:World}(h:PX x y cs rs u)(f:Fm tsM B u v):PX x y cs rs v:=
 ⟨f.k _ _ h.P (fun c t fz e=>part_no c t fz _ e),f.k _ _ h.R (fun c t fz e=>part_no c t fz _ e),h.ne⟩
theorem PX.below{x y:Nat}{cs rs:Array Value}{u v:World}(h:PX x y cs rs u)(b:Below u.heap.size u v):PX x y cs rs v:=
 ⟨(b.block x (Array.getElem?_eq_some_iff.1 h.P).1).trans h.P,(b.block y (Array.getElem?_eq_some_iff.1 h.R).1).trans h.R,h.ne⟩
theorem heap_setZ{w:World}{b:Nat}{cs:Array Value}{t:TypeId}(h:w.heap[b]?=some (.cells cs t))(i:Nat)(v:Value):(w.setCell ⟨b,i,none⟩ v).heap[b]?=some (.cells (cs.setIfInBounds i v) t):=heap_setCell_same w b i cs t v h
theorem PX.setP{x y:Nat}{cs rs:Array Value}{u:World}(h:PX x y cs rs u)(i:Nat)(v:Value):PX x y (cs.setIfInBounds i v) rs (u.setCell ⟨x,i,none⟩ v):=
 ⟨heap_setZ h.P i v,(Below.heap_setCell u ⟨x,i,none⟩ v y (fun e=>h.ne e.symm)).trans h.R,h.ne⟩
theorem px_new(w:World)(cs rs:Array Value):PX w.heap.size (w.heap.size+1) cs rs ((w.alloc (.cells cs 45)).alloc (.cells rs 45)):=by
 have e1:(w.alloc (.cells cs 45)).heap.size=w.heap.size+1:=by simp
 refine⟨(Below.heap_alloc _ _ _ (by rw[e1];omega)).trans (heap_alloc_newB w _),?_,by omega⟩;rw[<-e1];exact heap_alloc_newB _ _
theorem hp_frz{w:World}{p:Nat}{cs:Array Value}{t:TypeId}(h:w.heap[p]?=some (.cells cs t))(j:Nat):w.frozen? ⟨p,j,none⟩=false:=frozen_of_row w p j cs t h
theorem two_below(w:World)(a b:Obj):Below w.heap.size w ((w.alloc a).alloc b):=((Below.refl _ _).alloc (Nat.le_refl _) _).alloc (by simp) _
theorem Fm.setNew{ts:List TypeId}{B:Nat}{w u:World}(h:Fm ts B w u){a:Addr}(hq:w.heap.size<=a.block)(hB:B<=a.block)(v:Value):Fm ts B w (u.setCell a v):=
 ⟨h.b.setCell hB v,fun q o h1 h2=>(Below.heap_setCell u a v q (by have:=(Array.getElem?_eq_some_iff.1 h1).1;omega)).trans (h.k q o h1 h2)⟩
def put8(u:World)(x:Nat)(v0 v1 v2 v3 v4 v5 v6 v7:Value):World:=(((((((u.setCell ⟨x,0,none⟩ v0).setCell ⟨x,1,none⟩ v1).setCell ⟨x,2,none⟩ v2).setCell ⟨x,3,none⟩ v3).setCell ⟨x,4,none⟩ v4).setCell ⟨x,5,none⟩ v5).setCell ⟨x,6,none⟩ v6).setCell ⟨x,7,none⟩ v7
theorem put8_other(u:World)(x q:Nat)(v0 v1 v2 v3 v4 v5 v6 v7:Value)(h:q≠x):(put8 u x v0 v1 v2 v3 v4 v5 v6 v7).heap[q]?=u.heap[q]?:=by
 unfold put8;simp only[Below.heap_setCell _ ⟨x,_,none⟩ _ q h]
theorem Fm.put8{ts:List TypeId}{B:Nat}{w u:World}(h:Fm ts B w u){x:Nat}(hq:w.heap.size<=x)(hB:B<=x)(v0 v1 v2 v3 v4 v5 v6 v7:Value):Fm ts B w (put8 u x v0 v1 v2 v3 v4 v5 v6 v7):=
 (((((((h.setNew (a:=⟨x,0,none⟩) hq hB v0).setNew (a:=⟨x,1,none⟩) hq hB v1).setNew (a:=⟨x,2,none⟩) hq hB v2).setNew (a:=⟨x,3,none⟩) hq hB v3).setNew (a:=⟨x,4,none⟩) hq hB v4).setNew (a:=⟨x,5,none⟩) hq hB v5).setNew (a:=⟨x,6,none⟩) hq hB v6).setNew (a:=⟨x,7,none⟩) hq hB v7
theorem MS.other{w w':World}{B x:Nat}{S:PS}{sH sR sP sN sO:Sl}{bv:List Value}{o:Obj}(h:MS w B S sH sR sP sN sO bv)(hx:w.heap[x]?=some o)(ho:∀c t f,o=.cells c t f->t∉tsM)(hk:∀q,q≠x->w'.heap[q]?=w.heap[q]?):MS w' B S sH sR sP sN sO bv:=
 ⟨h.R.typ (ts:=tsM) h.typ (fun q c t f hq ht=>hk q (fun e=>by subst e;rw[hx]at hq;exact ho c t f (Option.some.inj hq) ht)),h.L,h.I⟩
theorem MS.put8{u:World}{B x y:Nat}{S:PS}{sH sR sP sN sO:Sl}{bv:List Value}{cs rs:Array Value}(h:MS u B S sH sR sP sN sO bv)(p:PX x y cs rs u)(v0 v1 v2 v3 v4 v5 v6 v7:Value):MS (put8 u y v0 v1 v2 v3 v4 v5 v6 v7) B S sH sR sP sN sO bv:=
 h.other p.R (fun c t f e=>part_no c t f _ e) (fun q hq=>put8_other u y q v0 v1 v2 v3 v4 v5 v6 v7 hq)
theorem MS.setP{u:World}{B x y:Nat}{S:PS}{sH sR sP sN sO:Sl}{bv:List Value}{cs rs:Array Value}(h:MS u B S sH sR sP sN sO bv)(p:PX x y cs rs u)(i:Nat)(v:Value):MS (u.setCell ⟨x,i,none⟩ v) B S sH sR sP sN sO bv:=
 h.other p.P (fun c t f e=>part_no c t f _ e) (fun q hq=>Below.heap_setCell u ⟨x,i,none⟩ v q hq)
theorem row_n{w:World}{B e z m n c:Nat}{a:Option Addr}{xs:List Value}(h:w.ownsRow B e z (.slice a n c) m xs):n=m:=by
 obtain⟨a',c',h'⟩:=row_sliceZ h;injection h'
theorem info4{t:TypeId}{z:Value}{n b:Nat}(h:(Tryz.prog.info? t).map (fun i=>(i.zero,i.size,i.bytes))=some (some z,n,b)):∃i,Tryz.prog.info? t=some i/\i.zero=some z/\i.size=n/\i.bytes=b:=by
 rcases hh:Tryz.prog.info? t with _|i
 ·rw[hh]at h;simp at h
 ·rw[hh]at h;simp at h;exact⟨i,rfl,h⟩
theorem cells_newZ(w:World)(vs:Array Value)(t:TypeId):∀j u,vs.toList[j]?=some u->(w.alloc (.cells vs t)).cell? ((⟨w.heap.size,0,none⟩:Addr).add j)=some u:=by
 intro j u hj;rw[show((⟨w.heap.size,0,none⟩:Addr).add j)=⟨w.heap.size,j,none⟩by simp[Addr.add];exact fun h=>h.symm];simp at hj;simp[go_sem,hj]
structure FA(w:World)(fb:Nat)(f:List (List UInt8)):Prop where
 c:∃cur:Array Value,w.heap[fb]?=some (.cells cur 9)/\∀i,i<f.length->cur[i]?=some (.string (stB (fd f i)))
theorem FA.below{w w':World}{fb:Nat}{f:List (List UInt8)}(h:FA w fb f)(b:Below w.heap.size w w'):FA w' fb f:=by
 obtain⟨cur,h1,h2⟩:=h.c;exact⟨cur,(b.block fb (Array.getElem?_eq_some_iff.1 h1).1).trans h1,h2⟩
theorem FA.fm{w w':World}{fb B:Nat}{ts:List TypeId}{f:List (List UInt8)}(h:FA w fb f)(b:Fm ts B w w')(ht:9∉ts):FA w' fb f:=by
 obtain⟨cur,h1,h2⟩:=h.c;exact⟨cur,b.k fb _ h1 (fun c t fz e=>by have:9=t:=(Obj.cells.inj e).2.1;subst this;exact ht),h2⟩
theorem FA.cell{w:World}{fb:Nat}{f:List (List UInt8)}(h:FA w fb f)(i:Nat)(hi:i<f.length):w.cell? ⟨fb,i,none⟩=some (.string (stB (fd f i))):=by
 obtain⟨cur,h1,h2⟩:=h.c;exact(hp_cell h1 i).trans (h2 i hi)
theorem beqT{l a:List UInt8}{s:ByteArray}(hs:stB l=s)(h:l=a):(s.toList==a)=true/\(s.toList !=a)=false:=by
 subst hs h;have e:(stB l).toList=l:=by rw[ByteArray.toList_eq];simp[stB]
 exact⟨by rw[e,beq_iff_eq],by rw[e,bne_eq_false_iff_eq]⟩
theorem beqF{l a:List UInt8}{s:ByteArray}(hs:stB l=s)(h:l≠a):(s.toList==a)=false/\(s.toList !=a)=true:=by
 subst hs;have e:(stB l).toList=l:=by rw[ByteArray.toList_eq];simp[stB]
 exact⟨by rw[e,beq_eq_false_iff_ne];exact h,by rw[e,bne_iff_ne];exact h⟩
theorem wpAnyL_appendZ{P:Program}{md:Region.Mode}{ops:Array Oper}{Q:Exit->Act->World->Prop}{T:World->Prop}{s' fuel i:Nat}{listed:Array Bool}{a:Act}{w w':World}{o:Oper}(s x:Operand){t:TypeId}{v u v':Value}(ho:ops[i]?=some o)(hr:Region.ready md ops listed=[i])(hw:Region.wanted o (yielded ops a.tmps)=true)
 (hop:o.op=.call {callee:=.builtin .append,args:=#[s,x],argTypes:=#[t,t]})(hs:a.eval s=v)(hx:a.eval x=u)(hrun:(Builtin.append_ #[t,t] o.type #[v,u]).run P w=.ok v' w')(hT:T w')(h:T w'->wpAnyL P md ops Q T s' fuel (listed.setIfInBounds i true) (a.put o.dst v') w'):wpAnyL P md ops Q T s' (fuel+1) listed a w:=
 wpAnyL_call ho hr (fun K' hK=>by
  rw[if_pos hw];unfold Oper.wp execOp;simp only[hop,resolve,invoke,builtin,Sem.run_bind,Sem.run_pure,Result.andThen_ok,List.map_toArray,List.map_cons,List.map_nil,hs,hx,hrun];exact hK _ _ hT h)
theorem wpAnyL_two{P:Program}{md:Region.Mode}{ops:Array Oper}{Q:Exit->Act->World->Prop}{T:World->Prop}{s:Nat}{i j:Nat}{oi oj:Oper}{fuel:Nat}{listed:Array Bool}{a:Act}{w:World}(hi:ops[i]?=some oi)(hj:ops[j]?=some oj)(hr:Region.ready md ops listed=[i,j])
 (h1:∀K':Act->World->Prop,Shut (∀a w,T w->(T w->wpAnyL P md ops Q T s fuel (listed.setIfInBounds i true) a w)->K' a w)->if Region.wanted oi (yielded ops a.tmps)=true then Oper.wp P oi a w K' Q else K' (a.put oi.dst undef) w)
 (h2:∀K':Act->World->Prop,Shut (∀a w,T w->(T w->wpAnyL P md ops Q T s fuel (listed.setIfInBounds j true) a w)->K' a w)->if Region.wanted oj (yielded ops a.tmps)=true then Oper.wp P oj a w K' Q else K' (a.put oj.dst undef) w):
 wpAnyL P md ops Q T s (fuel+1) listed a w:=
 ⟨fun h0=>(by rw[hr]at h0;cases h0),fun k hk=>by
   rw[hr]at hk;rcases(by simpa using hk:k=i∨k=j)with rfl|rfl
   ·exact wpOp_step hi fun K' hK=>h1 K' fun a w hS hW=>hK a w ⟨fun _=>hS,hW hS⟩
   ·exact wpOp_step hj fun K' hK=>h2 K' fun a w hS hW=>hK a w ⟨fun _=>hS,hW hS⟩⟩
theorem l6Bad_any(d st:Int)(sH sR sP sN sO:Sl)(b:Bool)(w:World):
 Calls Tryz.prog 22 #[.agg #[.int .i64 d,.slice sH.a sH.n sH.c,.slice sR.a sR.n sR.c,.slice sP.a sP.n sP.c,.int .i64 st,.slice sN.a sN.n sN.c,.slice sO.a sO.n sO.c,.bool b]] w fun e w'=>e=.returned (.agg #[.int .i64 d,.slice sH.a sH.n sH.c,.slice sR.a sR.n sR.c,.slice sP.a sP.n sP.c,.int .i64 st,.slice sN.a sN.n sN.c,.slice sO.a sO.n sO.c,.bool true])/\Below w.heap.size w w':=by
 go_enter Tryz.func22,Tryz.ntmps22;go_upto_region 1 with fail;obtain⟨u,hu,p0,bu⟩:∃y,((w.alloc (.cells #[.int .i64 d,.slice sH.a sH.n sH.c,.slice sR.a sR.n sR.c,.slice sP.a sP.n sP.c,.int .i64 st,.slice sN.a sN.n sN.c,.slice sO.a sO.n sO.c,.bool b] 45)).alloc (.cells #[.int .i64 0,.slice none 0 0,.slice none 0 0,.slice none 0 0,.int .i64 0,.slice none 0 0,.slice none 0 0,.bool false] 45))=y/\PX w.heap.size (w.heap.size+1) #[.int .i64 d,.slice sH.a sH.n sH.c,.slice sR.a sR.n sR.c,.slice sP.a sP.n sP.c,.int .i64 st,.slice sN.a sN.n sN.c,.slice sO.a sO.n sO.c,.bool b] #[.int .i64 0,.slice none 0 0,.slice none 0 0,.slice none 0 0,.int .i64 0,.slice none 0 0,.slice none 0 0,.bool false] y/\Below w.heap.size w y:=⟨_,rfl,px_new w _ _,two_below w _ _⟩
 rw[hu];obtain⟨x,hx⟩:∃y,w.heap.size=y:=⟨_,rfl⟩
 rw[hx]at p0⊢;have HX:Hid (w.heap.size=x):=hx;have BU:Hid (Below w.heap.size w u):=bu;clear hu hx;obtain⟨c0,c1,c2,c3,c4,c5,c6,c7⟩:=hp8 p0.P;obtain⟨z0,z1,z2,z3,z4,z5,z6,z7⟩:=hp8 p0.R;have f0:=hp_frz p0.P;have f1:=hp_frz p0.R;clear p0 bu;go_wp2;refine bodyPost_ret (v:=.agg #[.int .i64 d,.slice sH.a sH.n sH.c,.slice sR.a sR.n sR.c,.slice sP.a sP.n sP.c,.int .i64 st,.slice sN.a sN.n sN.c,.slice sO.a sO.n sO.c,.bool true]) (by simp[results,Tryz.results22,go_sem,z0,z1,z2,z3,z4,z5,z6,z7]) rfl ⟨rfl,?_⟩;have q:Fm [] w.heap.size w (put8 (u.setCell ⟨x,7,none⟩ (.bool true)) (x+1) (.int .i64 d) (.slice sH.a sH.n sH.c) (.slice sR.a sR.n sR.c) (.slice sP.a sP.n sP.c) (.int .i64 st) (.slice sN.a sN.n sN.c) (.slice sO.a sO.n sO.c) (.bool true)):=((Fm.of_below (ts:=[]) BU.out (Nat.le_refl _)).setNew (a:=⟨x,7,none⟩) (by have:=HX.out;show _<=x;omega) (by have:=HX.out;show _<=x;omega) _).put8 (by have:=HX.out;omega) (by have:=HX.out;omega) _ _ _ _ _ _ _ _;rw[<-HX.out];have q2:=q.b;rw[<-HX.out]at q2;exact q2
theorem l6Cond_any(s:ByteArray)(w:World):Calls Tryz.prog 47 #[.string s] w fun e w'=>e=.returned (.int .i64 (cndW s.data.toList))/\w'=w:=by
 have HK:Hid (s.toList=s.data.toList):=ByteArray.toList_eq s;unfold cndW;by_cases h0:s.data.toList=[122]
 ·have q0:(s.toList==[122])=true:=by rw[HK.out,beq_iff_eq];exact h0
  rw[if_pos h0];clear h0 HK;go_enter Tryz.func47,Tryz.ntmps47;go_wp2;go_ret;exact⟨rfl,rfl⟩
 have q0:(s.toList==[122])=false:=by rw[HK.out,beq_eq_false_iff_ne];exact h0
 by_cases h1:s.data.toList=[110,122]
 ·have q1:(s.toList==[110,122])=true:=by rw[HK.out,beq_iff_eq];exact h1
  rw[if_neg h0,if_pos h1];clear h0 h1 HK;go_enter Tryz.func47,Tryz.ntmps47;go_wp2;go_ret;exact⟨rfl,rfl⟩
 have q1:(s.toList==[110,122])=false:=by rw[HK.out,beq_eq_false_iff_ne];exact h1
 by_cases h2:s.data.toList=[99]
 ·have q2:(s.toList==[99])=true:=by rw[HK.out,beq_iff_eq];exact h2
  rw[if_neg h0,if_neg h1,if_pos h2];clear h0 h1 h2 HK;go_enter Tryz.func47,Tryz.ntmps47;go_wp2;go_ret;exact⟨rfl,rfl⟩
 have q2:(s.toList==[99])=false:=by rw[HK.out,beq_eq_false_iff_ne];exact h2
 by_cases h3:s.data.toList=[110,99]
 ·have q3:(s.toList==[110,99])=true:=by rw[HK.out,beq_iff_eq];exact h3
  rw[if_neg h0,if_neg h1,if_neg h2,if_pos h3];clear h0 h1 h2 h3 HK;go_enter Tryz.func47,Tryz.ntmps47;go_wp2;go_ret;exact⟨rfl,rfl⟩
 have q3:(s.toList==[110,99])=false:=by rw[HK.out,beq_eq_false_iff_ne];exact h3
 rw[if_neg h0,if_neg h1,if_neg h2,if_neg h3];clear h0 h1 h2 h3 HK;go_enter Tryz.func47,Tryz.ntmps47;go_wp2;go_ret;exact⟨rfl,rfl⟩
theorem l6Body_any(d st:Int)(sH sR sP sN sO sB:Sl)(b:Bool)(g:Nat)(w:World)(hp:sP.a=some ⟨g,0,none⟩)(hn:0<sP.n)(hm:(sP.n:Int)<=1000000)(hc:w.cell? ⟨g,sP.n-1,none⟩=some (.slice sB.a sB.n sB.c)):
 Calls Tryz.prog 48 #[.agg #[.int .i64 d,.slice sH.a sH.n sH.c,.slice sR.a sR.n sR.c,.slice sP.a sP.n sP.c,.int .i64 st,.slice sN.a sN.n sN.c,.slice sO.a sO.n sO.c,.bool b]] w fun e w'=>e=.returned (.slice sB.a sB.n sB.c)/\Below w.heap.size w w':=by
 obtain⟨aP,nP,cP⟩:=sP;dsimp only at hp hn hm hc⊢;subst hp;obtain⟨k,rfl⟩:∃k,nP=k+1:=⟨nP-1,by omega⟩
 rw[Nat.add_sub_cancel]at hc;have hgz:g<w.heap.size:=World.block_lt_of_cell? _ _ hc;go_enter Tryz.func48,Tryz.ntmps48;go_upto_region 1 with fail;obtain⟨u,hu,p0,bu⟩:∃y,w.alloc (.cells #[.int .i64 d,.slice sH.a sH.n sH.c,.slice sR.a sR.n sR.c,.slice (some ⟨g,0,none⟩) (k+1) cP,.int .i64 st,.slice sN.a sN.n sN.c,.slice sO.a sO.n sO.c,.bool b] 45)=y/\y.heap[w.heap.size]?=some (.cells #[.int .i64 d,.slice sH.a sH.n sH.c,.slice sR.a sR.n sR.c,.slice (some ⟨g,0,none⟩) (k+1) cP,.int .i64 st,.slice sN.a sN.n sN.c,.slice sO.a sO.n sO.c,.bool b] 45)/\Below w.heap.size w y:=⟨_,rfl,heap_alloc_newB _ _,(Below.refl _ _).alloc (Nat.le_refl _) _⟩
 rw[hu];have BU:Hid (Below w.heap.size w u):=bu;have c3:=hp_cell p0 3;simp only[List.getElem?_toArray,List.getElem?_cons_zero,List.getElem?_cons_succ]at c3;have hc':u.cell? ⟨g,k,none⟩=some (.slice sB.a sB.n sB.c):=(bu.cell (p:=⟨g,k,none⟩) hgz).trans hc;have e1:((k+1:Nat):Int)-1=(k:Int):=by omega
 have e2:(k:Int)<((k+1:Nat):Int):=by omega
 clear hu p0 bu hc;go_wp2;go_ret;exact⟨rfl,BU.out⟩
def setL:List Value->Nat->List Value->List Value
 |xs,_,[]=>xs
 |xs,i,v::vs=>setL (xs.set i v) (i+1) vs
def setW:World->Nat->Nat->List Value->World
 |w,_,_,[]=>w
 |w,g,i,v::vs=>setW (w.setCell ⟨g,i,none⟩ v) g (i+1) vs
theorem gr_trans{w u v:World}{ob:Option Nat}(h:w.grownBy u ob)(g:u.grownBy v ob):w.grownBy v ob:=
 ⟨g.os.trans h.os,g.tape.trans h.tape,g.output.trans h.output,Nat.le_trans h.size g.size,fun k hk hn=>(g.block k (Nat.lt_of_lt_of_le hk h.size) hn).trans (h.block k hk hn)⟩
theorem gr_reflZ(w:World)(ob:Option Nat):w.grownBy w ob:=⟨rfl,rfl,rfl,Nat.le_refl _,fun _ _ _=>rfl⟩
theorem stored_all{B e z g n cap:Nat}:∀(vs:List Value)(w:World)(xs:List Value)(i:Nat),w.ownsRow B e z (.slice (some ⟨g,0,none⟩) n cap) n xs->(setW w g i vs).ownsRow B e z (.slice (some ⟨g,0,none⟩) n cap) n (setL xs i vs)/\w.grownBy (setW w g i vs) (some g)
 |[],w,xs,i,h=>⟨h,gr_reflZ _ _⟩
 |v::vs,w,xs,i,h=>by
  obtain⟨s1,s2⟩:=h.stored i v;obtain⟨q1,q2⟩:=stored_all vs _ _ (i+1) s1;exact⟨q1,gr_trans s2 q2⟩
theorem setL_right(A:List Value):∀(vs:List Value)(i:Nat)(R:List Value),setL (A++R) (A.length+i) vs=A++setL R i vs
 |[],_,_=>rfl
 |v::vs,i,R=>by
  show setL ((A++R).set (A.length+i) v) (A.length+i+1) vs=A++setL (R.set i v) (i+1) vs;rw[List.set_append,if_neg (by omega),Nat.add_sub_cancel_left];exact setL_right A vs (i+1) (R.set i v)
theorem setL_all:∀(vs A R:List Value),vs.length=A.length->setL (A++R) 0 vs=vs++R
 |[],A,R,h=>by
  have:A=[]:=List.length_eq_zero_iff.1 h.symm;subst this;rfl
 |v::vs,[],R,h=>by simp at h
 |v::vs,a::A,R,h=>by
  show setL ([v]++(A++R)) ([v].length+0) vs=v::vs++R;rw[setL_right [v] vs 0 (A++R),setL_all vs A R (by simpa using h)];rfl
theorem fm_setL{α:Type}(g:α->List Value)(z:Nat)(hz:∀a,(g a).length=z):∀(xs:List α)(i:Nat)(b:α),i<xs.length->setL (xs.flatMap g) (i*z) (g b)=(xs.set i b).flatMap g
 |[],i,b,h=>by simp at h
 |x::l,0,b,_=>by
  rw[List.flatMap_cons,Nat.zero_mul,setL_all _ _ _ (by rw[hz,hz])];rfl
 |x::l,i+1,b,h=>by
  rw[List.flatMap_cons,show(i+1)*z=(g x).length+i*z by rw[hz,Nat.add_mul];omega,setL_right (g x) (g b) (i*z) (l.flatMap g),fm_setL g z hz l i b (by simpa using h)];rfl
theorem map_set{α:Type}(g:α->Value)(xs:List α)(i:Nat)(b:α):(xs.map g).set i (g b)=(xs.set i b).map g:=by rw[List.map_set]
theorem below_setW{B g:Nat}(hB:B<=g):∀(vs:List Value)(i:Nat){w0 w:World},Below B w0 w->Below B w0 (setW w g i vs)
 |[],_,_,_,h=>h
 |v::vs,i,_,_,h=>below_setW hB vs (i+1) (h.setCell hB v)
theorem heap_setW{w:World}{g:Nat}{a0 a1 a2 a3 a4 a5 b0 b1 b2 b3 b4 b5:Value}{t:TypeId}(h:w.heap[g]?=some (.cells #[a0,a1,a2,a3,a4,a5] t)):(setW w g 0 [b0,b1,b2,b3,b4,b5]).heap[g]?=some (.cells #[b0,b1,b2,b3,b4,b5] t):=
 heap_setZ (heap_setZ (heap_setZ (heap_setZ (heap_setZ (heap_setZ h 0 b0) 1 b1) 2 b2) 3 b3) 4 b4) 5 b5
end Go.Proofs.YtblfmpgdhpbffaaGreatDoor
