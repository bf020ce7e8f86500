import Derived.Test.YtblfmpgdhpbffaaGreatDoorAsmTabW
import Derived.Test.YtblfmpgdhpbffaaGreatDoorAsmIns
import Derived.Lib.LaidTab
import Derived.Test.YtblfmpgdhpbffaaGreatDoorOfRdTake
import Derived.ScopeJumps
import Derived.Shelf.Bytes.SlIndexAt
set_option maxHeartbeats 3200000
set_option maxRecDepth 20000
namespace Go.Proofs.YtblfmpgdhpbffaaGreatDoor
open Go.RowKit
def opN:ByteArray:=⟨#[109,111,118,32,109,111,118,105,32,97,100,100,32,115,117,98,32,109,117,108,32,97,110,100,32,111,114,32,120,111,114,32,100,105,118,32,97,100,100,105,32,97,110,100,105,32,115,104,108,32,115,104,114,32,97,100,100,115,32,97,100,99,32,115,117,98,115,32,99,109,112,32,99,109,112,105,32,115,101,108,122,32,115,101,108,99,32,108,100,98,32,108,100,113,32,115,116,98,32,115,116,113,32,108,100,98,120,32,108,100,113,120,32,115,116,98,120,32,115,116,113,120,32,106,109,112,32,106,122,32,106,110,122,32,106,99,32,106,110,99,32,104,97,108,116]⟩
theorem opN_names:(Lib.fields opN.data.toList)=nmT.tail.map fun s=>s.data.toList:=by kernel_rfl
theorem opN_ascii:∀(j:Nat)b,opN.data.toList[j]?=some b->b.toNat<128:=by
 intro j b h;have h1:(opN.data.toList.all fun b=>decide (b.toNat<128))=true:=by kernel_rfl
 have:=List.all_eq_true.1 h1 b (List.mem_of_getElem? h);simpa using this
theorem opN_size:opN.size=145:=by kernel_rfl
theorem fields_names(s:ByteArray)(hs:s=opN)(w:World)(ht:Lib.TabIs Tryz.prog w "strings.asciiSpace" .u8 Lib.asciiSpaceTab):
 Calls Tryz.prog 53 #[.string s] w fun e w'=>e=.returned (.slice (some ⟨w.heap.size,0,none⟩) 34 34)/\w'=w.alloc (.cells (nmT.tail.map Value.string).toArray 9):=by
 subst hs;refine(stringsFields_any opN w (by rw[opN_size];omega) opN_ascii ht).mono ?_;rintro e w'⟨rfl,rfl⟩;rw[opN_names];exact⟨rfl,rfl⟩
theorem names_small:∀s∈nmT.tail,s.size<=5:=by decide
theorem names_cell{k:Nat}(h:k<34):∃s,s.size<=5/\s=nmS ((k:Int)+1)/\((nmT.tail.map Value.string).toArray)[k]?=some (.string s):=by
 have hl:nmT.tail.length=34:=rfl;obtain⟨s,hs⟩:∃s,nmT.tail[k]?=some s:=⟨_,List.getElem?_eq_getElem (by omega)⟩
 refine⟨s,names_small s (List.mem_of_getElem? hs),?_,by rw[List.getElem?_toArray,List.getElem?_map,hs];rfl⟩;unfold nmS;rw[show((k:Int)+1).toNat=k+1 by omega,List.getD_eq_getElem?_getD];rw[List.getElem?_tail]at hs;rw[hs];rfl
def opK:Nat->List UInt8->Int
 |0,_=>0
 |k+1,l=>if l=(nmS ((k:Int)+1)).data.toList then(k:Int)+1 else opK k l
def OpsAt(w:World)(ob:Nat):Prop:=∃o,w.heap[ob]?=some o/\∀w':World,w'.heap[ob]?=some o->∀s:ByteArray,s.size<=maxLen->(Instr.lookup 73 (.map (some ob)) (.string s) false).run Tryz.prog w'=.ok (.int .i64 (opK 34 s.data.toList)) w'
theorem OpsAt.below{w w':World}{ob:Nat}(h:OpsAt w ob){B:Nat}(hb:Below B w w')(hB:ob<B):OpsAt w' ob:=by
 obtain⟨o,h1,h2⟩:=h;exact⟨o,(hb.block ob hB).trans h1,h2⟩
theorem small_wf{x:Int}(h0:0<=x)(h1:x<=1000):(Lit.int .i64 x).wf=true:=by
 simp[Lit.wf,IntKind.min,IntKind.max,IntKind.signed,IntKind.bits];omega
structure NS(w:World)(sb nb ob mb:Nat)(d:Int)(k:Nat)(v:World):Prop where
 sc:SC v sb nb ob mb d
 below:Below w.heap.size w v
 map:∃D,v.ownsMap Tryz.prog 9 (plainElem (H:=Unit) Tryz.prog 2) ob k D/\Maps.IsMap D/\∀l:List UInt8,D.atKey (.string l) (.lit (.int .i64 0))=.lit (.int .i64 (opK k l))
theorem NS.step{w v v':World}{sb nb ob mb k:Nat}{d:Int}{D:DataW Unit}(h:NS w sb nb ob mb d k v)(h1:nb<ob)(h2:ob<mb)(h3:mb<sb)(h4:w.heap.size<=nb)(hg:v.grownBy v' (some ob))(ho:v'.ownsMap Tryz.prog 9 (plainElem (H:=Unit) Tryz.prog 2) ob (k+1) D)(hm:Maps.IsMap D)(ha:∀l:List UInt8,D.atKey (.string l) (.lit (.int .i64 0))=.lit (.int .i64 (opK (k+1) l))):NS w sb nb ob mb d (k+1) v':=by
 have kp:∀{q:Nat}{o:Obj},q≠ob->v.heap[q]?=some o->v'.heap[q]?=some o:=fun{q o}hq hh=>(hg.block q (Array.getElem?_eq_some_iff.1 hh).1 (by intro e;cases e;exact hq rfl)).trans hh
 refine⟨⟨kp (by omega) h.sc.S,kp (by omega) h.sc.N,?_⟩,h.below.grown hg h.below.size (by intro q e;cases e;omega),D,ho,hm,ha⟩;obtain⟨o,m1,m2⟩:=h.sc.M;exact⟨o,kp (by omega) m1,m2⟩
theorem newScribe_any(d:Int)(w:World)(ht:Lib.TabIs Tryz.prog w "strings.asciiSpace" .u8 Lib.asciiSpaceTab):
 Calls Tryz.prog 26 #[.int .i64 d] w fun e w'=>∃sb nb ob mb,e=.returned (.pointer (some ⟨sb,0,none⟩))/\SC w' sb nb ob mb d/\Below w.heap.size w w'/\sb<w'.heap.size/\nb<w'.heap.size/\mb<w'.heap.size/\ob<w'.heap.size/\OpsAt w' ob/\w.heap.size<=nb/\nb<ob/\ob<mb/\mb<sb:=by
 have HT:Hid (Lib.TabIs Tryz.prog w "strings.asciiSpace" .u8 Lib.asciiSpaceTab):=ht;clear ht;have hmk:∀w:World,(Instr.makeMap 73 none).run Tryz.prog w=.ok (.map (some w.heap.size)) (w.alloc (.map #[] 0)):=fun w=>run_makeMap _ w
 go_enter Tryz.func26,Tryz.ntmps26;go_wp2_with fail;refine(fields_names _ (by kernel_rfl) w HT.out).mono ?_;rintro e w1⟨rfl,hw1⟩;have n1:w1.heap[w.heap.size]?=some (.cells (nmT.tail.map Value.string).toArray 9):=by rw[hw1];exact heap_alloc_newB w _
 have b1:Below w.heap.size w w1:=by rw[hw1];exact(Below.refl _ _).alloc (Nat.le_refl _) _
 have z1:w.heap.size<w1.heap.size:=by rw[hw1];simp
 have N1:Hid (w1.heap[w.heap.size]?=some (.cells (nmT.tail.map Value.string).toArray 9)):=n1;have B1:Hid (Below w.heap.size w w1):=b1;clear hw1 n1 b1;go_wp2_with fail;obtain⟨w2,hw2,b2,N2,O2,z2⟩:∃v,w1.alloc (.map #[] 0)=v/\Hid (Below w.heap.size w v)/\Hid (v.heap[w.heap.size]?=some (.cells (nmT.tail.map Value.string).toArray 9))/\Hid (v.ownsMap Tryz.prog 9 (plainElem (H:=Unit) Tryz.prog 2) w1.heap.size 0 (.map []))/\w1.heap.size<v.heap.size:=
  ⟨_,rfl,B1.out.alloc (Nat.le_of_lt z1) _,((Below.refl _ _).alloc (Nat.le_refl _) _:Below w1.heap.size w1 _).block _ z1|>.trans N1.out,World.ownsMap_made _ _ _ _,by simp⟩
 rw[hw2];clear hw2 N1 B1 hmk;refine(formTable_any w2).mono ?_;rintro e w3⟨rfl,b3,z3,f3⟩;have B3:Hid (Below w.heap.size w w3):=b2.out.trans (b3.mono (by omega));have N3:Hid (w3.heap[w.heap.size]?=some (.cells (nmT.tail.map Value.string).toArray 9)):=(b3.block _ (by omega)).trans N2.out;have O3:Hid (w3.ownsMap Tryz.prog 9 (plainElem (H:=Unit) Tryz.prog 2) w1.heap.size 0 (.map [])):=(by
  obtain⟨es,c,h1,h2⟩:=O2.out;exact⟨es,c,(b3.block _ z2).trans h1,h2⟩:w3.ownsMap Tryz.prog 9 (plainElem (H:=Unit) Tryz.prog 2) w1.heap.size 0 (.map []))
 have F3:Hid (FormsAt w3 w2.heap.size):=f3;clear b2 N2 O2 b3 f3;go_upto_region 2 with fail;obtain⟨nb,hnb⟩:∃x,w.heap.size=x:=⟨_,rfl⟩
 obtain⟨ob,hob⟩:∃x,w1.heap.size=x:=⟨_,rfl⟩
 obtain⟨mb,hmb⟩:∃x,w2.heap.size=x:=⟨_,rfl⟩
 obtain⟨sb,hsb⟩:∃x,w3.heap.size=x:=⟨_,rfl⟩
 have Z:Hid (w.heap.size<=nb/\nb<ob/\ob<mb/\mb<sb):=(by omega:w.heap.size<=nb/\nb<ob/\ob<mb/\mb<sb)
 obtain⟨w4,hw4,P4,zs⟩:∃v,w3.alloc (.cells #[.int .i64 d,.slice (some ⟨w.heap.size,0,none⟩) 34 34,.map (some w1.heap.size),.map (some w2.heap.size)] 76)=v/\Hid (NS w sb nb ob mb d 0 v)/\sb<v.heap.size:=by
  refine⟨_,rfl,?_,by simp;omega⟩;have hb:Below w3.heap.size w3 (w3.alloc (.cells #[.int .i64 d,.slice (some ⟨w.heap.size,0,none⟩) 34 34,.map (some w1.heap.size),.map (some w2.heap.size)] 76)):=(Below.refl _ _).alloc (Nat.le_refl _) _;refine(⟨⟨?_,?_,?_⟩,?_,?_⟩:NS w sb nb ob mb d 0 _)
  ·rw[<-hsb,<-hnb,<-hob,<-hmb];exact heap_alloc_newB w3 _
  ·rw[<-hnb];exact(hb.block _ (by omega)).trans N3.out
  ·rw[<-hmb];exact F3.out.below hb (by omega)
  ·exact B3.out.trans (hb.mono (by omega))
  ·obtain⟨es,c,h1,h2⟩:=O3.out
   rw[<-hob];exact⟨_,⟨es,c,(hb.block _ (by omega)).trans h1,h2⟩,⟨_,rfl⟩,fun l=>rfl⟩
 rw[hw4,hnb,hob,hmb,hsb];clear hw4 B3 N3 O3 F3 z1 z2 z3;have c1:w4.cell? ⟨sb,1,none⟩=some (.slice (some ⟨nb,0,none⟩) 34 34):=heap_cell P4.out.sc.S 1;go_wp2_with fail;clear c1 hnb hob hmb hsb;go_loopw [4,5,17](fun _ _ j wr=>∃k:Nat,k<=34/\j=.int .i64 k/\NS w sb nb ob mb d k wr/\sb<wr.heap.size)(fun _ _ j _=>34-(intOf j).toNat)
 case atStart=>exact⟨0,Nat.zero_le _,rfl,P4.out,zs⟩
 case round=>
  clear P4 zs;obtain⟨k,hk,rfl,p,zs⟩:=hrel;have P:Hid (NS w sb nb ob mb d k wr):=p;clear p;by_cases hlt:k<34
  rotate_left
  ·obtain rfl:k=34:=by omega
   go_wp2_with fail;go_ret;have z:=Z.out;refine⟨sb,nb,ob,mb,rfl,P.out.sc,P.out.below,by omega,by omega,by omega,by omega,?_,z.1,z.2.1,z.2.2.1,z.2.2.2⟩;obtain⟨D,hD,hM,hat⟩:=P.out.map;obtain⟨es,c,h1,h2,h3,h4⟩:=hD;refine⟨_,h1,fun w' hw s hs=>?_⟩;have hD':w'.ownsMap Tryz.prog 9 (plainElem (H:=Unit) Tryz.prog 2) ob 34 D:=⟨es,c,hw,h2,h3,h4⟩
   obtain⟨cv,r1,r2,_⟩:=hD'.lookup_int (Maps.string_keyed Tryz.underlying9) Tryz.underlying73 Tryz.underlying2 (by kernel_rfl) (WideMaps.keyOf_string_mk Tryz.underlying9 hs);rw[hat]at r2;simp only[DataW.lit.injEq,Lit.int.injEq,true_and]at r2;rw[r1,<-r2]
  obtain⟨s,hs,hsn,hc⟩:=names_cell hlt;have g0:wr.cell? ⟨nb,k,none⟩=some (.string s):=(heap_cell P.out.sc.N k).trans hc;have g2:wr.cell? ⟨sb,2,none⟩=some (.map (some ob)):=heap_cell P.out.sc.S 2;have hl1:(k:Int)<34:=by omega
  obtain⟨D,hD,hM,hatk⟩:=P.out.map;have HM:Hid (Maps.IsMap D):=hM;have HAK:Hid (∀l:List UInt8,D.atKey (.string l) (.lit (.int .i64 0))=.lit (.int .i64 (opK k l))):=hatk;have HSN:Hid (s=nmS ((k:Int)+1)):=hsn;clear hM hatk hsn;have HS:Hid (s.size<=5):=hs;have HD:Hid (wr.ownsMap Tryz.prog 9 (plainElem (H:=Unit) Tryz.prog 2) ob k D):=hD;clear hc hs hD;go_wp2_with(first|(at_mapUpdate;go_loud(refine wpList_mapUpdate_own _ rfl _ _ _ 73 rfl 9 2 (Maps.string_keyed Tryz.underlying9) Tryz.underlying73 _ ob k _ rfl HD.out (by unfold maxLen;omega) _ _ _ rfl rfl (WideMaps.keyOf_string_mk Tryz.underlying9 (by have:=HS.out;unfold maxLen;omega)) _ [] (plainElem_int Tryz.underlying2 ?cwf) ?_)))
  case cwf=>exact small_wf (by omega) (by omega)
  intro w1 hown1 hgrow1;have NX:Hid (NS w sb nb ob mb d (k+1) w1):=P.out.step Z.out.2.1 Z.out.2.2.1 Z.out.2.2.2 Z.out.1 hgrow1 hown1 (by obtain⟨es,he⟩:=HM.out;rw[he];exact⟨_,rfl⟩) (fun l=>by
   show _=DataW.lit (.int .i64 (if l=(nmS ((k:Int)+1)).data.toList then(k:Int)+1 else opK k l));by_cases e:l=(nmS ((k:Int)+1)).data.toList
   ·rw[if_pos e,e,<-HSN.out,Maps.atKey_put_same HM.out (show WideAt.IsKeyLit (.string s.data.toList)from trivial)]
   ·rw[if_neg e,<-HAK.out l,Maps.atKey_put_other]
    intro h;rw[HSN.out]at h;exact e (by injection h))
  have z1:=hgrow1.size;clear hown1 hgrow1 g0 g2;go_wp2_with fail;go_roundw
  case rel=>exact⟨k+1,by omega,by go_num,NX.out,by omega⟩
  case measure=>simp[intOf];omega
theorem opK_none:∀(k:Nat)(l:List UInt8),(∀j:Nat,j<k->l≠(nmS ((j:Int)+1)).data.toList)->opK k l=0
 |0,_,_=>rfl
 |k+1,l,h=>by
  show(if l=_ then _ else opK k l)=0;rw[if_neg (h k (by omega)),opK_none k l fun j hj=>h j (by omega)]
theorem opK_nm:∀k:Nat,k<34->opK 34 (nmL ((k:Int)+1))=(k:Int)+1:=by decide
theorem opK_of(l:List UInt8):opK 34 l=opOf l:=by
 by_cases h:opOf l=0
 ·rw[h]
  refine opK_none 34 l fun j hj e=>?_
  have h1:=(nm_all (op:=(j:Int)+1) (by omega) (by omega)).2.2;have:opOf l=(j:Int)+1:=by rw[e];exact h1
  omega
 ·obtain⟨h1,h2,h3⟩:=op_back rfl h
  have h4:=opK_nm (opOf l-1).toNat (by omega);rw[show(((opOf l-1).toNat:Nat):Int)+1=opOf l by omega,<-h3]at h4;exact h4
theorem conv_bytes{w:World}{b o:Nat}{l:List UInt8}(cap:Nat)(h:At w b o l.length (numF .u8 (bF l))):(convert 22 9 (.slice (some ⟨b,o,none⟩) l.length cap)).run Tryz.prog w=.ok (.string (stB l)) w:=by
 have hx:=run_convert_bytes_arg (P:=Tryz.prog) w 22 5 Tryz.underlying22 Tryz.underlying5 b o l.length cap (l.map fun c=>(c.toNat:Int)) (by simp) (fun i hi=>by
  rw[h.2 i hi];unfold numF bF;simp[List.getD_eq_getElem?_getD,hi]) 9 Tryz.underlying9
 rw[hx];have:strOfNums (l.map fun c=>(c.toNat:Int))=stB l:=by
  unfold strOfNums stB;rw[List.map_map];have:(fun n:Int=>UInt8.ofNat n.toNat)∘(fun c:UInt8=>(c.toNat:Int))=id:=by
   funext c
   simp
  rw[this,List.map_id]
 rw[this]
def NameR(l:List UInt8)(b o cap:Nat)(e:Ending):Prop:=
 ∃o',e=.returned (.tuple #[.int .i64 (opOf (l.take (pre isAz l))),.slice (some ⟨b,o',none⟩) (l.length-pre isAz l) (cap-pre isAz l)])/\(o'=o+pre isAz l∨l.length-pre isAz l=0)
theorem takeName_any(sb nb ob mb:Nat)(d:Int)(b o cap:Nat)(l:List UInt8)(w:World)(p:SC w sb nb ob mb d)(hops:OpsAt w ob)(hl:(l.length:Int)<=1048576)(hcap:l.length<=cap)(hat:At w b o l.length (numF .u8 (bF l))):
 Calls Tryz.prog 99 #[.pointer (some ⟨sb,0,none⟩),.slice (some ⟨b,o,none⟩) l.length cap] w fun e w'=>NameR l b o cap e/\Below w.heap.size w w':=by
 have HA:Hid (At w b o l.length (numF .u8 (bF l))):=hat;have HSC:Hid (SC w sb nb ob mb d):=p;have HOP:Hid (OpsAt w ob):=hops;clear hat p hops;go_enter Tryz.func99,Tryz.ntmps99;go_wp2_with fail;go_loopw [6](fun jv wr=>wr=w/\∃j:Nat,j<=l.length/\j<=pre isAz l/\jv=.int .i64 j)(fun jv _=>l.length-(intOf jv).toNat)
 case atStart=>exact⟨rfl,0,Nat.zero_le _,Nat.zero_le _,rfl⟩
 case round=>
  obtain⟨hw,j,hj,hp,rfl⟩:=hrel;rw[hw];clear hw;have HP:Hid (j<=pre isAz l):=hp;clear hp;obtain⟨lc,hlc⟩:∃lc,(decide (j<l.length)&&isAz (l.getD j 0))=lc:=⟨_,rfl⟩
  have HLC:Hid ((decide (j<l.length)&&isAz (l.getD j 0))=lc):=hlc;clear hlc;go_upto_region 2 with fail;go_cut [24](fun b wx=>wx=w/\b=.bool lc)
  case first=>
   by_cases hlt:j<l.length
   ·have hl1:(j:Int)<l.length:=by omega
    obtain⟨c,hc⟩:∃c,l.getD j 0=c:=⟨_,rfl⟩
    have g0:w.cell? ⟨b,o+j,none⟩=some (.int .u8 (c.toNat:Int)):=by rw[<-hc];exact at_byte HA.out hlt
    have HC:Hid (l.getD j 0=c):=hc;clear hc;by_cases h97:97<=c.toNat
    ·have k97:(97:Int)<=(c.toNat:Int):=by omega
     have e:decide ((c.toNat:Int)<=122)=lc:=by
      rw[<-HLC.out,HC.out];simp[isAz,hlt,h97];omega
     go_wp2_with fail;go_meet;exact⟨rfl,rfl⟩
    ·have k97:¬(97:Int)<=(c.toNat:Int):=by omega
     have e:Hid (false=lc):=(by rw[<-HLC.out,HC.out];simp[isAz,h97]:false=lc)
     go_wp2_with fail;go_meet;exact⟨rfl,congrArg Value.bool e.out⟩
   ·have hl1:¬(j:Int)<l.length:=by omega
    have e:Hid (false=lc):=(by rw[<-HLC.out];simp[hlt]:false=lc)
    go_wp2_with fail;go_meet;exact⟨rfl,congrArg Value.bool e.out⟩
  case rest=>
  obtain⟨hw,rfl⟩:=hcut;rw[hw];clear hw;cases lc with
  |true=>
   have h1:j<l.length/\isAz (l.getD j 0)=true:=by simpa using HLC.out
   have HS:Hid (j+1<=pre isAz l):=(pre_step isAz l j HP.out h1.1).1 h1.2;have hj1:=h1.1;clear h1;go_wp2_with fail;go_roundw
   case rel=>exact⟨trivial,j+1,by omega,HS.out,by go_num⟩
   case measure=>simp[intOf];omega
  |false=>
   have hpj:pre isAz l=j:=by
    have h1:=HLC.out;by_cases hlt:j<l.length
    ·exact(pre_step isAz l j HP.out hlt).2 (by simpa[hlt]using h1)
    ·exact pre_all isAz l j HP.out (by omega)
   have HPJ:Hid (pre isAz l=j):=hpj;have hjc:(j:Int)<=cap:=by omega
   have hjl:(j:Int)<=l.length:=by omega
   have lsz:sb<w.heap.size:=(Array.getElem?_eq_some_iff.1 HSC.out.S).1;have c2:∀w',Below w.heap.size w w'->w'.cell? ⟨sb,2,none⟩=some (.map (some ob)):=fun w' hb=>(hb.cell (p:=⟨sb,2,none⟩) lsz).trans (heap_cell HSC.out.S 2)
   have hcv:∀w',Below w.heap.size w w'->(convert 22 9 (.slice (some ⟨b,o,none⟩) j cap)).run Tryz.prog w'=.ok (.string (stB (l.take j))) w':=fun w' hb=>by
    have h1:=conv_bytes (w:=w') (b:=b) (o:=o) (l:=l.take j) cap ((at_take HA.out j).below hb HA.out.lt);rw[List.length_take,show min j l.length=j by omega]at h1;exact h1
   have hlk:∀w',Below w.heap.size w w'->(Instr.lookup 73 (.map (some ob)) (.string (stB (l.take j))) false).run Tryz.prog w'=.ok (.int .i64 (opOf (l.take j))) w':=fun w' hb=>by
    obtain⟨ob1,h1,h2⟩:=HOP.out;have h3:=h2 w' ((hb.block ob (Array.getElem?_eq_some_iff.1 h1).1).trans h1) (stB (l.take j)) (by
     have:(stB (l.take j)).size=(l.take j).length:=by show(l.take j).toArray.size=_;simp
     rw[this,List.length_take];unfold maxLen;omega)
    rw[stB_list,opK_of]at h3;exact h3
   obtain⟨v,hv⟩:∃v,opOf (l.take j)=v:=⟨_,rfl⟩
   have HV:Hid (opOf (l.take j)=v):=hv;rw[hv]at hlk;clear hpj HLC HP hv;by_cases hjx:j=cap
   ·have hc1:(j:Int)=cap:=by omega
    have hj0:l.length-j=0:=by omega
    subst hjx;go_upto_region 4 with fail
    refine wp_region_held_drew (S:=fun w'=>Below w.heap.size w w') (by kernel_rfl) (Below.refl _ _).drew (fun _=>?_)
    refine wpAnyH_tk 0 ?k1v rfl ?k1y ?k1r
    case k1y=>(intro w hSw;(try dsimp only at hSw);go_simp;try with_reducible rfl)
    try go_frame
    refine wpAnyH_tk 1 ?k2v rfl ?k2y ?k2r
    case k2y=>(intro w hSw;(try dsimp only at hSw);go_simp;try with_reducible rfl)
    try go_frame
    refine wpAnyH_tk 2 ?k3v rfl ?k3y ?k3r
    case k3y=>(intro w hSw;(try dsimp only at hSw);go_simp;try with_reducible rfl)
    try go_frame
    refine wpAnyH_tk 3 ?k4v rfl ?k4y ?k4r
    case k4y=>(intro w hSw;(try dsimp only at hSw);go_simp;try with_reducible rfl)
    try go_frame
    refine wpAnyH_tk 4 ?k5v rfl ?k5y ?k5r
    case k5y=>(intro w hSw;(try dsimp only at hSw);go_simp;try with_reducible rfl)
    try go_frame
    refine wpAnyH_tk 5 ?k6v rfl ?k6y ?k6r
    case k6y=>(intro w hSw;(try dsimp only at hSw);go_simp;try with_reducible rfl)
    try go_frame
    refine wpAnyH_tk 6 ?k7v rfl ?k7y ?k7r
    case k7y=>(intro w hSw;(try dsimp only at hSw);go_simp;try with_reducible rfl)
    try go_frame
    refine wpAnyH_tk 7 ?k8v rfl ?k8y ?k8r
    case k8y=>(intro w hSw;(try dsimp only at hSw);go_simp;try with_reducible rfl)
    try go_frame
    refine wpAnyH_tk 8 ?k9v rfl ?k9y ?k9r
    case k9y=>(intro w hSw;(try dsimp only at hSw);go_simp;try with_reducible rfl)
    try go_frame
    refine wpAnyH_tk 9 ?k10v rfl ?k10y ?k10r
    case k10y=>(intro w hSw;(try dsimp only at hSw);go_simp;try with_reducible rfl)
    try go_frame
    refine wpAnyH_tk 10 ?k11v rfl ?k11y ?k11r
    case k11y=>(intro w hSw;(try dsimp only at hSw);go_simp;try with_reducible rfl)
    try go_frame
    refine wpAnyH_tk 11 ?k12v rfl ?k12y ?k12r
    case k12y=>(intro w hSw;(try dsimp only at hSw);go_simp;try with_reducible rfl)
    try go_frame
    refine wpAnyH_tk 12 ?k13v rfl ?k13y ?k13r
    case k13y=>(intro w hSw;(try dsimp only at hSw);go_simp;try with_reducible rfl)
    try go_frame
    refine wpAnyH_tk 13 ?k14v rfl ?k14y ?k14r
    case k14y=>(intro w hSw;(try dsimp only at hSw);go_simp;try with_reducible rfl)
    try go_frame
    refine wpAnyH_done (by kernel_rfl) ?_ _
    go_wp2_with fail
    go_ret2
    refine⟨?_,(Below.refl _ _).drew⟩
    unfold NameR
    rw[HPJ.out,HV.out]
    exact⟨o,by rw[hj0,Nat.sub_self];rfl,.inr hj0⟩
   ·have hc1:¬(j:Int)=cap:=by omega
    go_upto_region 4 with fail
    refine wp_region_held_drew (S:=fun w'=>Below w.heap.size w w') (by kernel_rfl) (Below.refl _ _).drew (fun _=>?_)
    refine wpAnyH_tk 0 ?k15v rfl ?k15y ?k15r
    case k15y=>(intro w hSw;(try dsimp only at hSw);go_simp;try with_reducible rfl)
    try go_frame
    refine wpAnyH_tk 1 ?k16v rfl ?k16y ?k16r
    case k16y=>(intro w hSw;(try dsimp only at hSw);go_simp;try with_reducible rfl)
    try go_frame
    refine wpAnyH_tk 2 ?k17v rfl ?k17y ?k17r
    case k17y=>(intro w hSw;(try dsimp only at hSw);go_simp;try with_reducible rfl)
    try go_frame
    refine wpAnyH_tk 3 ?k18v rfl ?k18y ?k18r
    case k18y=>(intro w hSw;(try dsimp only at hSw);go_simp;try with_reducible rfl)
    try go_frame
    refine wpAnyH_tk 4 ?k19v rfl ?k19y ?k19r
    case k19y=>(intro w hSw;(try dsimp only at hSw);go_simp;try with_reducible rfl)
    try go_frame
    refine wpAnyH_tk 5 ?k20v rfl ?k20y ?k20r
    case k20y=>(intro w hSw;(try dsimp only at hSw);go_simp;try with_reducible rfl)
    try go_frame
    refine wpAnyH_tk 6 ?k21v rfl ?k21y ?k21r
    case k21y=>(intro w hSw;(try dsimp only at hSw);go_simp;try with_reducible rfl)
    try go_frame
    refine wpAnyH_tk 7 ?k22v rfl ?k22y ?k22r
    case k22y=>(intro w hSw;(try dsimp only at hSw);go_simp;try with_reducible rfl)
    try go_frame
    refine wpAnyH_tk 8 ?k23v rfl ?k23y ?k23r
    case k23y=>(intro w hSw;(try dsimp only at hSw);go_simp;try with_reducible rfl)
    try go_frame
    refine wpAnyH_tk 9 ?k24v rfl ?k24y ?k24r
    case k24y=>(intro w hSw;(try dsimp only at hSw);go_simp;try with_reducible rfl)
    try go_frame
    refine wpAnyH_tk 10 ?k25v rfl ?k25y ?k25r
    case k25y=>(intro w hSw;(try dsimp only at hSw);go_simp;try with_reducible rfl)
    try go_frame
    refine wpAnyH_tk 11 ?k26v rfl ?k26y ?k26r
    case k26y=>(intro w hSw;(try dsimp only at hSw);go_simp;try with_reducible rfl)
    try go_frame
    refine wpAnyH_tk 12 ?k27v rfl ?k27y ?k27r
    case k27y=>(intro w hSw;(try dsimp only at hSw);go_simp;try with_reducible rfl)
    try go_frame
    refine wpAnyH_tk 13 ?k28v rfl ?k28y ?k28r
    case k28y=>(intro w hSw;(try dsimp only at hSw);go_simp;try with_reducible rfl)
    try go_frame
    refine wpAnyH_done (by kernel_rfl) ?_ _
    go_wp2_with fail
    go_ret2
    refine⟨?_,(Below.refl _ _).drew⟩
    unfold NameR
    rw[HPJ.out,HV.out]
    exact⟨o+j,rfl,.inl rfl⟩
end Go.Proofs.YtblfmpgdhpbffaaGreatDoor
namespace Go.Proofs.YtblfmpgdhpbffaaGreatDoor
namespace Go.Proofs
open Go.Shelf
def Tryz.laysIB_ren:Go.Shelf.Ren:=⟨fun|187=>64|255=>107|n=>n,fun|37=>22|5=>5|3=>3|n=>n,fun|n=>n⟩
theorem Tryz.laysIB:Go.Proofs.Lays.n187 Tryz.prog Tryz.laysIB_ren:={
 mixed:=by kernel_rfl
 f187:=Tryz.func64.trans (congrArg some (by kernel_rfl))
 f255:=Tryz.func107.trans (congrArg some (by kernel_rfl))
 t3:=Tryz.underlying3
 a3:=Tryz.isAgg3
 z3:=Tryz.sizeOf3
 v3:=Tryz.zeroValue3
 t5:=Tryz.underlying5
 a5:=Tryz.isAgg5
 z5:=Tryz.sizeOf5
 v5:=Tryz.zeroValue5
 t37:=Tryz.underlying22
 a37:=Tryz.isAgg22
 z37:=Tryz.sizeOf22
 v37:=Tryz.zeroValue22}
end Go.Proofs
open Go.RowKit Go.Proofs
def Jumps(J:Nat->Act->World->Prop)(Q:Exit->Act->World->Prop):Exit->Act->World->Prop
 |.goto l,a,w=>J l a w
 |e,a,w=>Q e a w
theorem wp_scope_many{P:Program}{a:Act}{w:World}{Q:Exit->Act->World->Prop}{c:Code}(rest:Nat->Code)(J:Nat->Act->World->Prop)(μ:Nat->Act->World->Nat)(hf:∀l a w,J l a w->findLabel c l=some (rest l))
 (first:c.wp P (Jumps J Q) a w)
 (pass:∀l a w,J l a w->(rest l).wp P (Jumps (fun l' a' w'=>J l' a' w'/\μ l' a' w'<μ l a w) Q) a w):(Code.scope c).wp P Q a w:=by
 intro b k cs;have hg:∀l a w,J l a w->gotoIn l (.inScope c::k)=some (.code (rest l)::.inScope c::k):=fun l a w h=>by simp[gotoIn,hf l a w h]
 have key:∀n l a w,μ l a w=n->J l a w->∃e a' w',Q e a' w'/\Arrives P (lone (b.at a (.code (rest l)::.inScope c::k)) cs w) b k cs e a' w':=by
  intro n;induction n using Nat.strongRecOn with
  |_ n ih=>
   intro l a w hn hJ;obtain⟨e,a₁,w₁,hq,harr⟩:=pass l a w hJ b (.inScope c::k) cs;cases e with
   |normal=>exact⟨.normal,a₁,w₁,hq,Steps.trans harr (.one step_inScope)⟩
   |exit id=>exact⟨.exit id,a₁,w₁,hq,fun k' hk=>harr k' (by simp[exitTo,hk])⟩
   |goto l'=>
    obtain⟨hJ',hlt⟩:=hq;obtain⟨e₂,a₂,w₂,hq₂,harr₂⟩:=ih _ (by omega) l' a₁ w₁ rfl hJ';exact⟨e₂,a₂,w₂,hq₂,.of_steps (harr _ (hg l' a₁ w₁ hJ')) harr₂⟩
   |ret=>exact⟨_,a₁,w₁,hq,harr⟩
   |panic ch=>exact⟨_,a₁,w₁,hq,harr⟩
   |outgrown=>exact⟨_,a₁,w₁,hq,harr⟩
 obtain⟨e,a₁,w₁,hq,harr⟩:=first b (.inScope c::k) cs
 cases e with
 |normal=>exact⟨.normal,a₁,w₁,hq,.head step_scope (Steps.trans harr (.one step_inScope))⟩
 |exit id=>exact⟨.exit id,a₁,w₁,hq,fun k' hk=>.head step_scope (harr k' (by simp[exitTo,hk]))⟩
 |goto l'=>
  obtain⟨e₂,a₂,w₂,hq₂,harr₂⟩:=key _ l' a₁ w₁ rfl hq;exact⟨e₂,a₂,w₂,hq₂,.of_steps (.head step_scope (harr _ (hg l' a₁ w₁ hq))) harr₂⟩
 |ret=>exact⟨_,a₁,w₁,hq,.of_steps (.one step_scope) harr⟩
 |panic ch=>exact⟨_,a₁,w₁,hq,.of_steps (.one step_scope) harr⟩
 |outgrown=>exact⟨_,a₁,w₁,hq,.of_steps (.one step_scope) harr⟩
theorem index_pre:∀l:List UInt8,Lib.indexByte l 10=if pre noNl l=l.length then -1 else(pre noNl l:Int)
 |[]=>rfl
 |c::l=>by
  have ih:=index_pre l;have hle:=pre_le noNl l;show(if c==10 then 0 else if Lib.indexByte l 10== -1 then -1 else Lib.indexByte l 10+1)=if(if noNl c=true then pre noNl l+1 else 0)=l.length+1 then -1 else(((if noNl c=true then pre noNl l+1 else 0:Nat)):Int)
  by_cases hc:c=10
  ·subst hc
   have e:noNl 10=false:=by decide
   rw[e];simp
  ·have e:noNl c=true:=by
    unfold noNl;simp only[ne_eq,decide_eq_true_eq];intro h;exact hc (UInt8.toNat_inj.1 h)
   have e1:(c==10)=false:=by simpa using hc
   rw[e,e1,ih];by_cases hp:pre noNl l=l.length
   ·simp[hp]
   ·have h1:¬((pre noNl l:Int)= -1):=by omega
    simp[hp,h1]
end Go.Proofs.YtblfmpgdhpbffaaGreatDoor
namespace Go.Proofs.YtblfmpgdhpbffaaGreatDoor
open Go.RowKit
def lnV(r:Row):List Value:=[.bool r.1,.int .i64 r.2.op,.int .i64 r.2.d,.int .i64 r.2.a,.int .i64 r.2.b,.int .i64 r.2.imm,.int .i64 r.2.h]
def lnA(lo:Option Row):Array Value:=(lnV (lo.getD (false,nv0))).toArray
def RLSpec:Prop:=∀(sb nb ob mf:Nat)(d:Int)(b o cap:Nat)(l:List UInt8)(w:World),SC w sb nb ob mf d->OpsAt w ob->(d=0∨d=1)->(l.length:Int)<=1048576->l.length<=cap->At w b o l.length (numF .u8 (bF l))->
 Calls Tryz.prog 62 #[.pointer (some ⟨sb,0,none⟩),.slice (some ⟨b,o,none⟩) l.length cap] w fun e w'=>e=.returned (.agg (lnA (rdLine d l)))/\Below w.heap.size w w'
end Go.Proofs.YtblfmpgdhpbffaaGreatDoor
