import Derived.Test.YtiphbmhoifggiaaGreatDoorAsmTabW
import Derived.Test.YtiphbmhoifggiaaGreatDoorAsmIns
import Derived.Lib.LaidTab
set_option maxHeartbeats 1600000
namespace Go.Proofs.YtiphbmhoifggiaaGreatDoor
open Go.RowKit
def opN:ByteArray:=⟨#[109,111,118,32,109,111,118,105,32,97,100,100,32,115,117,98,32,109,117,108,32,97,110,100,32,111,114,32,120,111,114,32,100,105,118,32,97,100,100,105,32,97,110,100,105,32,115,104,108,32,115,104,114,32,97,100,100,115,32,97,100,99,32,115,117,98,115,32,99,109,112,32,99,109,112,105,32,115,101,108,122,32,115,101,108,99,32,108,100,98,32,108,100,113,32,115,116,98,32,115,116,113,32,108,100,98,120,32,108,100,113,120,32,115,116,98,120,32,115,116,113,120,32,106,109,112,32,106,122,32,106,110,122,32,106,99,32,106,110,99,32,104,97,108,116]⟩
theorem opN_names:(Lib.fields opN.data.toList)=nmT.tail.map fun s=>s.data.toList:=by kernel_rfl
theorem opN_ascii:∀(j:Nat)b,opN.data.toList[j]?=some b->b.toNat<128:=by
 intro j b h;have h1:(opN.data.toList.all fun b=>decide (b.toNat<128))=true:=by kernel_rfl
 have:=List.all_eq_true.1 h1 b (List.mem_of_getElem? h);simpa using this
theorem opN_size:opN.size=145:=by kernel_rfl
theorem fields_names(s:ByteArray)(hs:s=opN)(w:World)(ht:Lib.TabIs Tryz.prog w "strings.asciiSpace" .u8 Lib.asciiSpaceTab):
 Calls Tryz.prog 51 #[.string s] w fun e w'=>e=.returned (.slice (some ⟨w.heap.size,0,none⟩) 34 34)/\w'=w.alloc (.cells (nmT.tail.map Value.string).toArray 9):=by
 subst hs;refine(stringsFields_any opN w (by rw[opN_size];omega) opN_ascii ht).mono ?_;rintro e w'⟨rfl,rfl⟩;rw[opN_names];exact⟨rfl,rfl⟩
theorem names_small:∀s∈nmT.tail,s.size<=5:=by decide
theorem names_cell{k:Nat}(h:k<34):∃s,s.size<=5/\s=nmS ((k:Int)+1)/\((nmT.tail.map Value.string).toArray)[k]?=some (.string s):=by
 have hl:nmT.tail.length=34:=rfl;obtain⟨s,hs⟩:∃s,nmT.tail[k]?=some s:=⟨_,List.getElem?_eq_getElem (by omega)⟩
 refine⟨s,names_small s (List.mem_of_getElem? hs),?_,by rw[List.getElem?_toArray,List.getElem?_map,hs];rfl⟩;unfold nmS;rw[show((k:Int)+1).toNat=k+1 by omega,List.getD_eq_getElem?_getD];rw[List.getElem?_tail]at hs;rw[hs];rfl
def opK:Nat->List UInt8->Int
 |0,_=>0
 |k+1,l=>if l=(nmS ((k:Int)+1)).data.toList then(k:Int)+1 else opK k l
def OpsAt(w:World)(ob:Nat):Prop:=∃o,w.heap[ob]?=some o/\∀w':World,w'.heap[ob]?=some o->∀s:ByteArray,s.size<=maxLen->(Instr.lookup 110 (.map (some ob)) (.string s) false).run Tryz.prog w'=.ok (.int .i64 (opK 34 s.data.toList)) w'
theorem OpsAt.below{w w':World}{ob:Nat}(h:OpsAt w ob){B:Nat}(hb:Below B w w')(hB:ob<B):OpsAt w' ob:=by
 obtain⟨o,h1,h2⟩:=h;exact⟨o,(hb.block ob hB).trans h1,h2⟩
theorem small_wf{x:Int}(h0:0<=x)(h1:x<=1000):(Lit.int .i64 x).wf=true:=by
 simp[Lit.wf,IntKind.min,IntKind.max,IntKind.signed,IntKind.bits];omega
structure NS(w:World)(sb nb ob mb:Nat)(d:Int)(k:Nat)(v:World):Prop where
 sc:SC v sb nb ob mb d
 below:Below w.heap.size w v
 map:∃D,v.ownsMap Tryz.prog 9 (plainElem (H:=Unit) Tryz.prog 2) ob k D/\Maps.IsMap D/\∀l:List UInt8,D.atKey (.string l) (.lit (.int .i64 0))=.lit (.int .i64 (opK k l))
theorem NS.step{w v v':World}{sb nb ob mb k:Nat}{d:Int}{D:DataW Unit}(h:NS w sb nb ob mb d k v)(h1:nb<ob)(h2:ob<mb)(h3:mb<sb)(h4:w.heap.size<=nb)(hg:v.grownBy v' (some ob))(ho:v'.ownsMap Tryz.prog 9 (plainElem (H:=Unit) Tryz.prog 2) ob (k+1) D)(hm:Maps.IsMap D)(ha:∀l:List UInt8,D.atKey (.string l) (.lit (.int .i64 0))=.lit (.int .i64 (opK (k+1) l))):NS w sb nb ob mb d (k+1) v':=by
 have kp:∀{q:Nat}{o:Obj},q≠ob->v.heap[q]?=some o->v'.heap[q]?=some o:=fun{q o}hq hh=>(hg.block q (Array.getElem?_eq_some_iff.1 hh).1 (by intro e;cases e;exact hq rfl)).trans hh
 refine⟨⟨kp (by omega) h.sc.S,kp (by omega) h.sc.N,?_⟩,h.below.grown hg h.below.size (by intro q e;cases e;omega),D,ho,hm,ha⟩;obtain⟨o,m1,m2⟩:=h.sc.M;exact⟨o,kp (by omega) m1,m2⟩
theorem newScribe_any(d:Int)(w:World)(ht:Lib.TabIs Tryz.prog w "strings.asciiSpace" .u8 Lib.asciiSpaceTab):
 Calls Tryz.prog 26 #[.int .i64 d] w fun e w'=>∃sb nb ob mb,e=.returned (.pointer (some ⟨sb,0,none⟩))/\SC w' sb nb ob mb d/\Below w.heap.size w w'/\sb<w'.heap.size/\nb<w'.heap.size/\mb<w'.heap.size/\ob<w'.heap.size/\OpsAt w' ob/\w.heap.size<=nb/\nb<ob/\ob<mb/\mb<sb:=by
 have HT:Hid (Lib.TabIs Tryz.prog w "strings.asciiSpace" .u8 Lib.asciiSpaceTab):=ht;clear ht;have hmk:∀w:World,(Instr.makeMap 110 none).run Tryz.prog w=.ok (.map (some w.heap.size)) (w.alloc (.map #[] 0)):=fun w=>run_makeMap _ w
 go_enter Tryz.func26,Tryz.ntmps26;go_wp2_with fail;refine(fields_names _ (by kernel_rfl) w HT.out).mono ?_;rintro e w1⟨rfl,hw1⟩;have n1:w1.heap[w.heap.size]?=some (.cells (nmT.tail.map Value.string).toArray 9):=by rw[hw1];exact heap_alloc_newB w _
 have b1:Below w.heap.size w w1:=by rw[hw1];exact(Below.refl _ _).alloc (Nat.le_refl _) _
 have z1:w.heap.size<w1.heap.size:=by rw[hw1];simp
 have N1:Hid (w1.heap[w.heap.size]?=some (.cells (nmT.tail.map Value.string).toArray 9)):=n1;have B1:Hid (Below w.heap.size w w1):=b1;clear hw1 n1 b1;go_wp2_with fail;obtain⟨w2,hw2,b2,N2,O2,z2⟩:∃v,w1.alloc (.map #[] 0)=v/\Hid (Below w.heap.size w v)/\Hid (v.heap[w.heap.size]?=some (.cells (nmT.tail.map Value.string).toArray 9))/\Hid (v.ownsMap Tryz.prog 9 (plainElem (H:=Unit) Tryz.prog 2) w1.heap.size 0 (.map []))/\w1.heap.size<v.heap.size:=
  ⟨_,rfl,B1.out.alloc (Nat.le_of_lt z1) _,((Below.refl _ _).alloc (Nat.le_refl _) _:Below w1.heap.size w1 _).block _ z1|>.trans N1.out,World.ownsMap_made _ _ _ _,by simp⟩
 rw[hw2];clear hw2 N1 B1 hmk;refine(formTable_any w2).mono ?_;rintro e w3⟨rfl,b3,z3,f3⟩;have B3:Hid (Below w.heap.size w w3):=b2.out.trans (b3.mono (by omega));have N3:Hid (w3.heap[w.heap.size]?=some (.cells (nmT.tail.map Value.string).toArray 9)):=(b3.block _ (by omega)).trans N2.out;have O3:Hid (w3.ownsMap Tryz.prog 9 (plainElem (H:=Unit) Tryz.prog 2) w1.heap.size 0 (.map [])):=(by
  obtain⟨es,c,h1,h2⟩:=O2.out;exact⟨es,c,(b3.block _ z2).trans h1,h2⟩:w3.ownsMap Tryz.prog 9 (plainElem (H:=Unit) Tryz.prog 2) w1.heap.size 0 (.map []))
 have F3:Hid (FormsAt w3 w2.heap.size):=f3;clear b2 N2 O2 b3 f3;go_upto_region 2 with fail;obtain⟨nb,hnb⟩:∃x,w.heap.size=x:=⟨_,rfl⟩
 obtain⟨ob,hob⟩:∃x,w1.heap.size=x:=⟨_,rfl⟩
 obtain⟨mb,hmb⟩:∃x,w2.heap.size=x:=⟨_,rfl⟩
 obtain⟨sb,hsb⟩:∃x,w3.heap.size=x:=⟨_,rfl⟩
 have Z:Hid (w.heap.size<=nb/\nb<ob/\ob<mb/\mb<sb):=(by omega:w.heap.size<=nb/\nb<ob/\ob<mb/\mb<sb)
 obtain⟨w4,hw4,P4,zs⟩:∃v,w3.alloc (.cells #[.int .i64 d,.slice (some ⟨w.heap.size,0,none⟩) 34 34,.map (some w1.heap.size),.map (some w2.heap.size)] 114)=v/\Hid (NS w sb nb ob mb d 0 v)/\sb<v.heap.size:=by
  refine⟨_,rfl,?_,by simp;omega⟩;have hb:Below w3.heap.size w3 (w3.alloc (.cells #[.int .i64 d,.slice (some ⟨w.heap.size,0,none⟩) 34 34,.map (some w1.heap.size),.map (some w2.heap.size)] 114)):=(Below.refl _ _).alloc (Nat.le_refl _) _;refine(⟨⟨?_,?_,?_⟩,?_,?_⟩:NS w sb nb ob mb d 0 _)
  ·rw[<-hsb,<-hnb,<-hob,<-hmb];exact heap_alloc_newB w3 _
  ·rw[<-hnb];exact(hb.block _ (by omega)).trans N3.out
  ·rw[<-hmb];exact F3.out.below hb (by omega)
  ·exact B3.out.trans (hb.mono (by omega))
  ·obtain⟨es,c,h1,h2⟩:=O3.out
   rw[<-hob];exact⟨_,⟨es,c,(hb.block _ (by omega)).trans h1,h2⟩,⟨_,rfl⟩,fun l=>rfl⟩
 rw[hw4,hnb,hob,hmb,hsb];clear hw4 B3 N3 O3 F3 z1 z2 z3;have c1:w4.cell? ⟨sb,1,none⟩=some (.slice (some ⟨nb,0,none⟩) 34 34):=heap_cell P4.out.sc.S 1;go_wp2_with fail;clear c1 hnb hob hmb hsb;go_loopw [4,5,17](fun _ _ j wr=>∃k:Nat,k<=34/\j=.int .i64 k/\NS w sb nb ob mb d k wr/\sb<wr.heap.size)(fun _ _ j _=>34-(intOf j).toNat)
 case atStart=>exact⟨0,Nat.zero_le _,rfl,P4.out,zs⟩
 case round=>
  clear P4 zs;obtain⟨k,hk,rfl,p,zs⟩:=hrel;have P:Hid (NS w sb nb ob mb d k wr):=p;clear p;by_cases hlt:k<34
  rotate_left
  ·obtain rfl:k=34:=by omega
   go_wp2_with fail;go_ret;have z:=Z.out;refine⟨sb,nb,ob,mb,rfl,P.out.sc,P.out.below,by omega,by omega,by omega,by omega,?_,z.1,z.2.1,z.2.2.1,z.2.2.2⟩;obtain⟨D,hD,hM,hat⟩:=P.out.map;obtain⟨es,c,h1,h2,h3,h4⟩:=hD;refine⟨_,h1,fun w' hw s hs=>?_⟩;have hD':w'.ownsMap Tryz.prog 9 (plainElem (H:=Unit) Tryz.prog 2) ob 34 D:=⟨es,c,hw,h2,h3,h4⟩
   obtain⟨cv,r1,r2,_⟩:=hD'.lookup_int (Maps.string_keyed Tryz.underlying9) Tryz.underlying110 Tryz.underlying2 (by kernel_rfl) (WideMaps.keyOf_string_mk Tryz.underlying9 hs);rw[hat]at r2;simp only[DataW.lit.injEq,Lit.int.injEq,true_and]at r2;rw[r1,<-r2]
  obtain⟨s,hs,hsn,hc⟩:=names_cell hlt;have g0:wr.cell? ⟨nb,k,none⟩=some (.string s):=(heap_cell P.out.sc.N k).trans hc;have g2:wr.cell? ⟨sb,2,none⟩=some (.map (some ob)):=heap_cell P.out.sc.S 2;have hl1:(k:Int)<34:=by omega
  obtain⟨D,hD,hM,hatk⟩:=P.out.map;have HM:Hid (Maps.IsMap D):=hM;have HAK:Hid (∀l:List UInt8,D.atKey (.string l) (.lit (.int .i64 0))=.lit (.int .i64 (opK k l))):=hatk;have HSN:Hid (s=nmS ((k:Int)+1)):=hsn;clear hM hatk hsn;have HS:Hid (s.size<=5):=hs;have HD:Hid (wr.ownsMap Tryz.prog 9 (plainElem (H:=Unit) Tryz.prog 2) ob k D):=hD;clear hc hs hD;go_wp2_with(first|(at_mapUpdate;go_loud(refine wpList_mapUpdate_own _ rfl _ _ _ 110 rfl 9 2 (Maps.string_keyed Tryz.underlying9) Tryz.underlying110 _ ob k _ rfl HD.out (by unfold maxLen;omega) _ _ _ rfl rfl (WideMaps.keyOf_string_mk Tryz.underlying9 (by have:=HS.out;unfold maxLen;omega)) _ [] (plainElem_int Tryz.underlying2 ?cwf) ?_)))
  case cwf=>exact small_wf (by omega) (by omega)
  intro w1 hown1 hgrow1;have NX:Hid (NS w sb nb ob mb d (k+1) w1):=P.out.step Z.out.2.1 Z.out.2.2.1 Z.out.2.2.2 Z.out.1 hgrow1 hown1 (by obtain⟨es,he⟩:=HM.out;rw[he];exact⟨_,rfl⟩) (fun l=>by
   show _=DataW.lit (.int .i64 (if l=(nmS ((k:Int)+1)).data.toList then(k:Int)+1 else opK k l));by_cases e:l=(nmS ((k:Int)+1)).data.toList
   ·rw[if_pos e,e,<-HSN.out,Maps.atKey_put_same HM.out (show WideAt.IsKeyLit (.string s.data.toList)from trivial)]
   ·rw[if_neg e,<-HAK.out l,Maps.atKey_put_other]
    intro h;rw[HSN.out]at h;exact e (by injection h))
  have z1:=hgrow1.size;clear hown1 hgrow1 g0 g2;go_wp2_with fail;go_roundw
  case rel=>exact⟨k+1,by omega,by go_num,NX.out,by omega⟩
  case measure=>simp[intOf];omega
end Go.Proofs.YtiphbmhoifggiaaGreatDoor
