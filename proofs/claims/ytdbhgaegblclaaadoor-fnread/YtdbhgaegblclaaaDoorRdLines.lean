import Derived.Test.YtdbhgaegblclaaaDoorRdMark
import Derived.Test.YtdbhgaegblclaaaDoorAsmMark
import Derived.Test.YtdbhgaegblclaaaDoorAsmParts
import Derived.Laws.BytesArg
set_option maxHeartbeats 6400000
set_option maxRecDepth 20000
namespace Go.Proofs.YtdbhgaegblclaaaDoor
open Go.RowKit
def stB(l:List UInt8):ByteArray:=⟨l.toArray⟩
def lnC(ls:List (List UInt8)):List Value:=ls.map fun l=>.string (stB l)
theorem info_string:(Tryd.prog.info? 9).map (fun i=>(i.zero,i.size,i.bytes))=some (some (.string ⟨#[]⟩),1,16):=by kernel_rfl
theorem row_two{w w':World}{B1 B2 e1 e2 s1 s2 n1 n2:Nat}{v1 v2:Value}{x1 x2:List Value}(h1:w.ownsRow B1 e1 s1 v1 n1 x1)(h2:w.ownsRow B2 e2 s2 v2 n2 x2)(he:e1≠e2)(hg:w.grownBy w' v2.ownBlock):w'.ownsRow B1 e1 s1 v1 n1 x1:=by
 refine⟨h1.1,?_⟩;rcases h1.2 with h|⟨g,cap,cur,rfl,a1,a2,a3⟩
 ·exact .inl h
 ·refine .inr ⟨g,cap,cur,rfl,a1,?_,a3⟩
  refine(hg.block g (Array.getElem?_eq_some_iff.1 a2).1 fun hq=>?_).trans a2;rcases h2.2 with⟨rfl,_⟩|⟨g2,cap2,cur2,rfl,b1,b2,b3⟩
  ·cases hq
  ·have:g=g2:=by simpa[Value.ownBlock]using hq
   subst this;rw[a2]at b2;simp only[Option.some.injEq,Obj.cells.injEq]at b2;exact he b2.2.1
theorem row_sl{w:World}{B e s n:Nat}{v:Value}{xs:List Value}(h:w.ownsRow B e s v n xs):∃ao cap,v=.slice ao n cap:=by
 rcases h.2 with⟨rfl,rfl⟩|⟨g,cap,cur,rfl,_⟩
 ·exact⟨_,_,rfl⟩
 ·exact⟨_,_,rfl⟩
theorem row_new(w:World)(e s:Nat){B:Nat}(hB:B<=w.heap.size):(w.alloc (.cells #[] e)).ownsRow B e s (.slice (some ⟨w.heap.size,0,none⟩) 0 0) 0 []:=
 ⟨by simp,.inr ⟨_,0,#[],rfl,hB,heap_alloc_newB w _,Nat.le_refl _,Nat.zero_le _,by simp,by simp⟩⟩
theorem conv_row{w:World}{B n:Nat}{v:Value}{l:List UInt8}(h:w.ownsRow B 5 1 v n (Lib.byteCells l)):(convert 22 9 v).run Tryd.prog w=.ok (.string (stB l)) w:=by
 have hn:n=l.length:=by have:=h.1;rw[Lib.byteCells_length]at this;omega
 have h':=h;rcases h.2 with⟨rfl,h0⟩|⟨g,cap,cur,rfl,_⟩
 ·have hl:l=[]:=List.length_eq_zero_iff.1 (by omega)
  subst hl;exact run_convert_bytes_nil w 22 5 Tryd.underlying22 Tryd.underlying5 0 0 9 Tryd.underlying9
 ·have hx:=run_convert_bytes_arg (P:=Tryd.prog) w 22 5 Tryd.underlying22 Tryd.underlying5 g 0 n cap (l.map fun c=>(c.toNat:Int)) (by simp[hn]) (fun i hi=>by
   rw[Nat.zero_add,h'.cellAt i (by omega),bc_at l i (by omega)];unfold numF bF;simp[List.getD_eq_getElem?_getD,show i<l.length by omega]) 9 Tryd.underlying9
  rw[hx];have:strOfNums (l.map fun c=>(c.toNat:Int))=stB l:=by
   unfold strOfNums stB;rw[List.map_map];have:(fun n:Int=>UInt8.ofNat n.toNat)∘(fun c:UInt8=>(c.toNat:Int))=id:=by
    funext c
    simp
   rw[this,List.map_id]
  rw[this]
theorem ln_app(a b:List (List UInt8)):lnC a++lnC b=lnC (a++b):=by simp[lnC]
structure LX(w:World)(t:List UInt8)(i:Nat)(ls:List (List UInt8))(cur:List UInt8)(ov cv:Value)(v:World):Prop where
 bel:Below w.heap.size w v
 O:v.ownsRow w.heap.size 9 1 ov ls.length (lnC ls)
 C:v.ownsRow w.heap.size 5 1 cv cur.length (Lib.byteCells cur)
 L:splitL t []=(ls++(splitL (t.drop i) cur).1,(splitL (t.drop i) cur).2)
 n1:ls.length<=i
 n2:cur.length<=i
theorem split_step{t:List UInt8}{i:Nat}{c:UInt8}(cur:List UInt8)(hi:i<t.length)(hc:t.getD i 0=c):splitL (t.drop i) cur=if c.toNat=10 then(cur::(splitL (t.drop (i+1)) []).1,(splitL (t.drop (i+1)) []).2)else splitL (t.drop (i+1)) (cur++[c]):=by
 have:t.drop i=c::t.drop (i+1):=by
  rw[List.drop_eq_getElem_cons hi];congr 1
  rw[<-hc,List.getD_eq_getElem?_getD,List.getElem?_eq_getElem hi];rfl
 rw[this];rfl
def LinesR(t:List UInt8)(B:Nat)(e:Ending)(w':World):Prop:=
 ∃v,e=.returned (.tuple #[v,.bool (splitL t []).2.isEmpty])/\w'.ownsRow B 9 1 v ((splitL t []).1++(if(splitL t []).2.isEmpty=true then[]else[(splitL t []).2])).length (lnC ((splitL t []).1++(if(splitL t []).2.isEmpty=true then[]else[(splitL t []).2])))
theorem lines_any(b off cap:Nat)(t:List UInt8)(w:World)(ht:(t.length:Int)<=200000)(hat:At w b off t.length (numF .u8 (bF t))):
 Calls Tryd.prog 49 #[.slice (some ⟨b,off,none⟩) t.length cap] w fun e w'=>LinesR t w.heap.size e w'/\Below w.heap.size w w':=by
 have hb:=hat.lt;have HA:Hid (At w b off t.length (numF .u8 (bF t))):=hat;clear hat;obtain⟨iS,hi1,hi2,hi3,hi4⟩:∃i,Tryd.prog.info? 5=some i/\i.zero=some (.int .u8 0)/\i.size=1/\i.bytes=1:=by
  have:=info_u8;rcases hh:Tryd.prog.info? 5 with _|i
  ·rw[hh]at this;simp at this
  ·rw[hh]at this;simp at this;exact⟨i,rfl,this⟩
 have HI:Hid (Tryd.prog.info? 5=some iS/\iS.zero=some (.int .u8 0)/\iS.size=1/\iS.bytes=1):=⟨hi1,hi2,hi3,hi4⟩
 clear hi1 hi2 hi3 hi4;obtain⟨iT,hi1,hi2,hi3,hi4⟩:∃i,Tryd.prog.info? 9=some i/\i.zero=some (.string ⟨#[]⟩)/\i.size=1/\i.bytes=16:=by
  have:=info_string;rcases hh:Tryd.prog.info? 9 with _|i
  ·rw[hh]at this;simp at this
  ·rw[hh]at this;simp at this;exact⟨i,rfl,this⟩
 have HJ:Hid (Tryd.prog.info? 9=some iT/\iT.zero=some (.string ⟨#[]⟩)/\iT.size=1/\iT.bytes=16):=⟨hi1,hi2,hi3,hi4⟩
 clear hi1 hi2 hi3 hi4;have HTE:Hid ((9:Nat)≠5):=(by decide:(9:Nat)≠5)
 go_enter Tryd.func49,Tryd.ntmps49;go_upto_region 3 with fail;obtain⟨u,hu,X0⟩:∃v,(w.alloc (.cells #[] 9)).alloc (.cells #[] 5)=v/\Hid (LX w t 0 [] [] (.slice (some ⟨w.heap.size,0,none⟩) 0 0) (.slice (some ⟨w.heap.size+1,0,none⟩) 0 0) v):=by
  refine⟨_,rfl,?_⟩;have h1:Below w.heap.size w (w.alloc (.cells #[] 9)):=(Below.refl _ _).alloc (Nat.le_refl _) _;have h2:Below (w.alloc (.cells #[] 9)).heap.size (w.alloc (.cells #[] 9)) ((w.alloc (.cells #[] 9)).alloc (.cells #[] 5)):=(Below.refl _ _).alloc (Nat.le_refl _) _;have e1:(w.alloc (.cells #[] 9)).heap.size=w.heap.size+1:=by simp
  refine(⟨h1.trans (h2.mono h1.size),row_belowB (row_new w 9 1 (Nat.le_refl _)) h2,?_,?_,Nat.le_refl _,Nat.le_refl _⟩:LX w t 0 [] [] _ _ _)
  ·have:=row_new (w.alloc (.cells #[] 9)) 5 1 (B:=w.heap.size) (by omega)
   rw[e1]at this;exact this
  ·simp
 rw[hu];clear hu;go_wp2_with fail;go_loopw [4,5,6](fun ov cv iv wr=>∃(i:Nat)(ls:List (List UInt8))(cur:List UInt8),i<=t.length/\iv=.int .i64 i/\LX w t i ls cur ov cv wr)(fun _ _ iv _=>t.length-(intOf iv).toNat)
 case atStart=>exact⟨0,[],[],Nat.zero_le _,rfl,X0.out⟩
 case round=>
  clear X0;obtain⟨i,ls,cur,hi,rfl,hx⟩:=hrel;obtain⟨ao,ac,hu4⟩:=row_sl hx.O;obtain⟨co,cc,hu5⟩:=row_sl hx.C;subst hu4;subst hu5;have X:Hid (LX w t i ls cur (.slice ao ls.length ac) (.slice co cur.length cc) wr):=hx;have hcv:(convert 22 9 (.slice co cur.length cc)).run Tryd.prog wr=.ok (.string (stB cur)) wr:=conv_row hx.C;have hn1:=hx.n1;have hn2:=hx.n2;have hBr:=hx.bel.size;clear hx;have OA:Hid (∀o,(wr.alloc o).ownsRow w.heap.size 9 1 (.slice ao ls.length ac) ls.length (lnC ls)):=fun o=>row_belowB X.out.O ((Below.refl _ _).alloc (Nat.le_refl _) _)
  have CA:Hid (∀o,(wr.alloc o).ownsRow w.heap.size 5 1 (.slice co cur.length cc) cur.length (Lib.byteCells cur)):=fun o=>row_belowB X.out.C ((Below.refl _ _).alloc (Nat.le_refl _) _)
  have hBa:∀o,w.heap.size<=(wr.alloc o).heap.size:=fun o=>Nat.le_trans hBr (by simp)
  have HCS:Hid (∀j u,[Value.string (stB cur)][j]?=some u->(wr.alloc (.cells #[.string (stB cur)] 9)).cell? ((⟨wr.heap.size,0,none⟩:Addr).add j)=some u):=cell_one_new wr (.string (stB cur)) 9;by_cases hlt:i<t.length
  rotate_left
  ·have hl1:¬(i:Int)<t.length:=by omega
   have hsp:splitL t []=(ls,cur):=by
    rw[X.out.L,List.drop_eq_nil_of_le (by omega)];show(ls++[],cur)=_;rw[List.append_nil]
   have HSP:Hid (splitL t []=(ls,cur)):=hsp;clear hsp;by_cases hc0:cur=[]
   ·subst hc0
    have hcl:¬(0:Int)<(([]:List UInt8).length:Int):=by simp
    go_wp2_with fail;go_ret2;refine⟨⟨.slice ao ls.length ac,?_,?_⟩,X.out.bel⟩
    ·rw[HSP.out];rfl
    ·rw[HSP.out]
     simpa using X.out.O
   ·have hcl0:0<cur.length:=by
     cases cur with
     |nil=>exact absurd rfl hc0
     |cons a l=>simp
    have hcl:(0:Int)<(cur.length:Int):=by omega
    have HC0:Hid (cur.isEmpty=false):=(by cases cur with|nil=>exact absurd rfl hc0|cons a l=>rfl:cur.isEmpty=false)
    clear hc0;go_wp2_with(first|(at_builtin;refine wpList_append_own_at _ rfl _ _ 75 rfl w.heap.size 9 iT _ 1 16 Tryd.underlying75 HJ.out.1 HJ.out.2.1 HJ.out.2.2.1 HJ.out.2.2.2 rfl (by decide) _ _ _ rfl (OA.out _) ⟨wr.heap.size,0,none⟩ 1 1 [.string (stB cur)] rfl rfl HCS.out ?c2 ?c3 ?c4 (hBa _) ?_))
    case c2=>simp[Value.oneCell']
    case c3=>unfold maxLen;omega
    case c4=>omega
    intro v' w4 hown4 hgrow _ _;have hB4:Hid (Below w.heap.size w w4):=(X.out.bel.alloc hBr _).grown hgrow (hBa _) (fun k hk=>((OA.out (.cells #[] 0)).lt k hk).1);have O4:Hid (w4.ownsRow w.heap.size 9 1 v' (ls++[cur]).length (lnC (ls++[cur]))):=(by
     rw[<-ln_app,List.length_append];exact hown4:w4.ownsRow w.heap.size 9 1 v' (ls++[cur]).length (lnC (ls++[cur])))
    clear hown4 hgrow;go_wp2_with fail;go_ret2;refine⟨⟨v',?_,?_⟩,hB4.out⟩
    ·rw[HSP.out]
     show _=Ending.returned (.tuple #[v',.bool cur.isEmpty]);rw[HC0.out];rfl
    ·rw[HSP.out]
     simp only[HC0.out];exact O4.out
  have hl1:(i:Int)<t.length:=by omega
  obtain⟨c,hc⟩:∃c,t.getD i 0=c:=⟨_,rfl⟩
  have g0:wr.cell? ⟨b,off+i,none⟩=some (.int .u8 (c.toNat:Int)):=(X.out.bel.cell (p:=⟨b,off+i,none⟩) hb).trans ((HA.out.cell hlt).trans (by rw[<-hc];rfl));have HST:Hid (splitL (t.drop i) cur=if c.toNat=10 then(cur::(splitL (t.drop (i+1)) []).1,(splitL (t.drop (i+1)) []).2)else splitL (t.drop (i+1)) (cur++[c])):=split_step cur hlt hc;clear hc;by_cases h10:c.toNat=10
  ·have e1:((c.toNat:Int)==10)=true:=by rw[h10];rfl
   have H10:Hid (c.toNat=10):=h10;clear h10;go_wp2_with(first|(at_builtin;refine wpList_append_own_at _ rfl _ _ 75 rfl w.heap.size 9 iT _ 1 16 Tryd.underlying75 HJ.out.1 HJ.out.2.1 HJ.out.2.2.1 HJ.out.2.2.2 rfl (by decide) _ _ _ rfl (OA.out _) ⟨wr.heap.size,0,none⟩ 1 1 [.string (stB cur)] rfl rfl HCS.out ?c2 ?c3 ?c4 (hBa _) ?_))
   case c2=>simp[Value.oneCell']
   case c3=>unfold maxLen;omega
   case c4=>omega
   intro v' w4 hown4 hgrow _ _;have hB4:Hid (Below w.heap.size w w4):=(X.out.bel.alloc hBr _).grown hgrow (hBa _) (fun k hk=>((OA.out (.cells #[] 0)).lt k hk).1);have O4:Hid (w4.ownsRow w.heap.size 9 1 v' (ls++[cur]).length (lnC (ls++[cur]))):=(by
    rw[<-ln_app,List.length_append];exact hown4:w4.ownsRow w.heap.size 9 1 v' (ls++[cur]).length (lnC (ls++[cur])))
   clear hown4 hgrow hcv g0;have N4:Hid (LX w t (i+1) (ls++[cur]) [] v' (.slice (some ⟨w4.heap.size,0,none⟩) 0 0) (w4.alloc (.cells #[] 5))):=
    (⟨hB4.out.alloc hB4.out.size _,row_belowB O4.out ((Below.refl _ _).alloc (Nat.le_refl _) _),row_new w4 5 1 hB4.out.size,by rw[X.out.L,HST.out,if_pos H10.out];simp,by simp;omega,by simp⟩:LX w t (i+1) (ls++[cur]) [] v' (.slice (some ⟨w4.heap.size,0,none⟩) 0 0) (w4.alloc (.cells #[] 5)))
   go_wp2_with fail;go_roundw
   case rel=>exact⟨i+1,ls++[cur],[],by omega,by go_num,N4.out⟩
   case measure=>simp[intOf];omega
  ·have e1:((c.toNat:Int)==10)=false:=by rw[beq_eq_false_iff_ne];omega
   have H10:Hid (¬c.toNat=10):=h10;clear h10;have HCL:Hid (∀j u,[Value.int .u8 (c.toNat:Int)][j]?=some u->(wr.alloc (.cells #[.int .u8 (c.toNat:Int)] 5)).cell? ((⟨wr.heap.size,0,none⟩:Addr).add j)=some u):=cell_one_new wr (.int .u8 (c.toNat:Int)) 5;go_wp2_with(first|(at_builtin;refine wpList_append_own_at _ rfl _ _ 22 rfl w.heap.size 5 iS _ 1 1 Tryd.underlying22 HI.out.1 HI.out.2.1 HI.out.2.2.1 HI.out.2.2.2 rfl (by decide) _ _ _ rfl (CA.out _) ⟨wr.heap.size,0,none⟩ 1 1 [.int .u8 (c.toNat:Int)] rfl rfl HCL.out ?c2 ?c3 ?c4 (hBa _) ?_))
   case c2=>simp[Value.oneCell']
   case c3=>unfold maxLen;omega
   case c4=>omega
   intro v' w4 hown4 hgrow _ _;have hB4:Hid (Below w.heap.size w w4):=(X.out.bel.alloc hBr _).grown hgrow (hBa _) (fun k hk=>((CA.out (.cells #[] 0)).lt k hk).1);have C4:Hid (w4.ownsRow w.heap.size 5 1 v' (cur++[c]).length (Lib.byteCells (cur++[c]))):=(by
    have e:Lib.byteCells (cur++[c])=Lib.byteCells cur++[.int .u8 (c.toNat:Int)]:=by simp[Lib.byteCells]
    rw[e,List.length_append];exact hown4:w4.ownsRow w.heap.size 5 1 v' (cur++[c]).length (Lib.byteCells (cur++[c])))
   have O4:Hid (w4.ownsRow w.heap.size 9 1 (.slice ao ls.length ac) ls.length (lnC ls)):=row_two (OA.out _) (CA.out _) HTE.out hgrow;clear hown4 hgrow hcv g0;have N4:Hid (LX w t (i+1) ls (cur++[c]) (.slice ao ls.length ac) v' w4):=
    (⟨hB4.out,O4.out,C4.out,by rw[X.out.L,HST.out,if_neg H10.out],by omega,by simp;omega⟩:LX w t (i+1) ls (cur++[c]) (.slice ao ls.length ac) v' w4)
   go_wp2_with fail;go_roundw
   case rel=>exact⟨i+1,ls,cur++[c],by omega,by go_num,N4.out⟩
   case measure=>simp[intOf];omega
end Go.Proofs.YtdbhgaegblclaaaDoor
