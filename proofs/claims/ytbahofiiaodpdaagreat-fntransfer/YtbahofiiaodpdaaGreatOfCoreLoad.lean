import Derived.Test.YtbahofiiaodpdaaGreatCoreFlags
import Derived.Test.YtbahofiiaodpdaaGreatOfFlatAny
import Derived.Test.YtbahofiiaodpdaaGreatOfCoreNo
import Derived.Test.YtbahofiiaodpdaaGreatOfCl
set_option maxHeartbeats 800000
namespace Go.Proofs.YtbahofiiaodpdaaGreat
open Go.RowKit
theorem fetch_no(bC:Nat)(ao:Option Addr)(len cap:Nat)(p:Int)(w:World)(hC:bC<w.heap.size)(c6:w.cell? ⟨bC,6,none⟩=some (.int .i64 p))(hp:(len:Int)<=p):
 Calls Tryz.prog 79 #[.pointer (some ⟨bC,0,none⟩),.slice ao len cap] w fun e w'=>e=.panicked [{v:=.iface 124 (.agg #[]),recovered:=false}]/\Below w.heap.size w w':=by
 go_enter Tryz.func79,Tryz.ntmps79;go_wp2;exact⟨rfl,rfl,(Below.refl _ _).alloc (Nat.le_refl _) _⟩
theorem fetch_yes(bC b off len cap p:Nat)(F:Nat->Nat->Int)(w:World)(hC:bC<w.heap.size)(c6:w.cell? ⟨bC,6,none⟩=some (.int .i64 p))(hp:p<len)(hat:At w b off (len*6) (insF F)):
 Calls Tryz.prog 79 #[.pointer (some ⟨bC,0,none⟩),.slice (some ⟨b,off,none⟩) len cap] w fun e w'=>e=.returned (.agg #[.int .i64 (F p 0),.int .i64 (F p 1),.int .i64 (F p 2),.int .i64 (F p 3),.int .i64 (F p 4),.int .i64 (F p 5)])/\Below w.heap.size w w':=by
 have HA:Hid (At w b off (len*6) (insF F)):=hat;have hb:=hat.lt;clear hat;have g0:=((HA.out.cell (i:=p*6+0) (by omega)).trans (congrArg some (insF_at F p 0 (by omega))))
 rw[Nat.add_zero]at g0;have g1:=((HA.out.cell (i:=p*6+1) (by omega)).trans (congrArg some (insF_at F p 1 (by omega))))
 rw[<-Nat.add_assoc]at g1;have g2:=((HA.out.cell (i:=p*6+2) (by omega)).trans (congrArg some (insF_at F p 2 (by omega))))
 rw[<-Nat.add_assoc]at g2;have g3:=((HA.out.cell (i:=p*6+3) (by omega)).trans (congrArg some (insF_at F p 3 (by omega))))
 rw[<-Nat.add_assoc]at g3;have g4:=((HA.out.cell (i:=p*6+4) (by omega)).trans (congrArg some (insF_at F p 4 (by omega))))
 rw[<-Nat.add_assoc]at g4;have g5:=((HA.out.cell (i:=p*6+5) (by omega)).trans (congrArg some (insF_at F p 5 (by omega))))
 rw[<-Nat.add_assoc]at g5;go_enter Tryz.func79,Tryz.ntmps79;go_wp2;exact bodyPost_ret (v:=.agg #[.int .i64 (F p 0),.int .i64 (F p 1),.int .i64 (F p 2),.int .i64 (F p 3),.int .i64 (F p 4),.int .i64 (F p 5)]) (by simp[results,Tryz.results79,go_sem]) rfl ⟨rfl,(Below.refl _ _).alloc (Nat.le_refl _) _⟩
theorem addressByNumber_any(bC bR cap a:Nat)(op d b imm hh:Int)(R:Nat->Int)(w:World)(ha:a<8)(hC:bC<w.heap.size)(hR:bR<w.heap.size)
 (c0:w.cell? ⟨bC,0,none⟩=some (.slice (some ⟨bR,0,none⟩) 8 cap))(ra:w.cell? ⟨bR,a,none⟩=some (.int .u64 (R a))):
 Calls Tryz.prog 124 #[.pointer (some ⟨bC,0,none⟩),.agg #[.int .i64 op,.int .i64 d,.int .i64 a,.int .i64 b,.int .i64 imm,.int .i64 hh]] w fun e w'=>e=.returned (.int .u64 (IntKind.u64.wrap (R a+IntKind.u64.wrap imm)))/\Below w.heap.size w w':=by
 have ha':(a:Int)<8:=by omega
 go_enter Tryz.func124,Tryz.ntmps124;go_wp2;go_region;all_goals(go_wp2;go_ret;exact⟨rfl,((Below.refl _ _).alloc (Nat.le_refl _) _).drew⟩)
theorem addressByIndex_any(bC bR cap a b:Nat)(op d imm hh:Int)(R:Nat->Int)(w:World)(ha:a<8)(hb:b<8)(hC:bC<w.heap.size)(hR:bR<w.heap.size)
 (c0:w.cell? ⟨bC,0,none⟩=some (.slice (some ⟨bR,0,none⟩) 8 cap))(ra:w.cell? ⟨bR,a,none⟩=some (.int .u64 (R a)))(rb:w.cell? ⟨bR,b,none⟩=some (.int .u64 (R b))):
 Calls Tryz.prog 126 #[.pointer (some ⟨bC,0,none⟩),.agg #[.int .i64 op,.int .i64 d,.int .i64 a,.int .i64 b,.int .i64 imm,.int .i64 hh]] w fun e w'=>e=.returned (.int .u64 (IntKind.u64.wrap (R a+R b)))/\Below w.heap.size w w':=by
 have ha':(a:Int)<8:=by omega
 have hb':(b:Int)<8:=by omega
 go_enter Tryz.func126,Tryz.ntmps126;go_wp2;go_region;all_goals(go_wp2;go_ret;exact⟨rfl,((Below.refl _ _).alloc (Nat.le_refl _) _).drew⟩)
def lies(base address width:Int)(len:Nat):Bool:=decide (base<=address)&&decide (width<=len)&&decide (address-base<=len-width)
theorem liesIn_any(base address width:Int)(wr:Bool)(ao:Option Addr)(len cap:Nat)(w:World)(hlen:len<=1048576)(h0:0<=base)(h1:0<=address)(h2:0<=width)(h3:address<=18446744073709551615)(h4:base<=18446744073709551615)(h5:width<=8):
 Calls Tryz.prog 148 #[.agg #[.int .u64 base,.bool wr,.slice ao len cap],.int .u64 address,.int .u64 width] w fun e w'=>e=.returned (.bool (lies base address width len))/\Below w.heap.size w w':=by
 go_enter Tryz.func148,Tryz.ntmps148;go_wp2;all_goals(go_ret;refine⟨congrArg (fun x=>Ending.returned (.bool x)) ?_,(Below.refl _ _).alloc (Nat.le_refl _) _⟩)
 all_goals(simp[lies];try omega)
def Seen(base bC n:Nat)(vO:Value)(xs:List Value)(kind val:Int)(w w':World):Prop:=
 ∃v' w1,w1.ownsRow base 82 2 v' (n+1) (xs++[.int .i64 kind,.int .u64 val])/\w.grownBy w1 vO.ownBlock/\Below w1.heap.size (w1.setCell ⟨bC,8,none⟩ v') w'
theorem cells_out(base bC n:Nat)(vO:Value)(xs:List Value)(aH:Option Addr)(nH cH:Nat)(h address width:Int)(wr:Bool)(w:World)(hn:n<=1048576)(hbase:base<=w.heap.size)(hC:bC<w.heap.size)(hne:some bC≠vO.ownBlock)
 (c5:w.cell? ⟨bC,5,none⟩=some (.slice aH nH cH))(c8:w.cell? ⟨bC,8,none⟩=some vO)(hf:w.frozen? ⟨bC,8,none⟩=false)(hown:w.ownsRow base 82 2 vO n xs)(hh:(nH:Int)<=h):
 Calls Tryz.prog 142 #[.pointer (some ⟨bC,0,none⟩),.int .i64 h,.int .u64 address,.int .u64 width,.bool wr] w fun e w'=>e=.panicked [{v:=.iface 124 (.agg #[]),recovered:=false}]/\Seen base bC n vO xs 1 address w w':=by
 have HO:Hid (w.ownsRow base 82 2 vO n xs):=hown;clear hown;go_enter Tryz.func142,Tryz.ntmps142;go_wp2_with fail;refine(see_any base bC n vO xs _ address _ hn (by omega) (by omega) hne c8 hf HO.out).mono ?_;rintro e w2⟨v',w1,rfl,o1,g1,hw2⟩;have q5:=(World.cell?_of_block (a:=⟨bC,5,none⟩) (g1.block bC hC hne)).trans c5;have HX:Hid _:=o1;have HY:Hid _:=g1;clear o1 g1 c8 hf c5;subst hw2;go_wp2;exact⟨rfl,rfl,v',w1,HX.out,HY.out,Below.refl _ _⟩
theorem cells_in(base bC bH bD n:Nat)(vO:Value)(xs:List Value)(nH cH h:Nat)(Hp:Nat->HeapV)(address:Int)(width:Nat)(wr:Bool)(w:World)(hn:n<=1048576)(hbase:base<=w.heap.size)(hC:bC<w.heap.size)(hne:some bC≠vO.ownBlock)(hnH:some bH≠vO.ownBlock)(hCH:bC≠bH)
 (c5:w.cell? ⟨bC,5,none⟩=some (.slice (some ⟨bH,0,none⟩) nH cH))(c8:w.cell? ⟨bC,8,none⟩=some vO)(hf:w.frozen? ⟨bC,8,none⟩=false)(hown:w.ownsRow base 82 2 vO n xs)(hh:h<nH)(hat:At w bH 0 (nH*3) (heapF Hp))
 (hlen:(Hp h).len<=1048576)(h0:0<=(Hp h).base)(h4:(Hp h).base<=18446744073709551615)(h1:0<=address)(h3:address<=18446744073709551615)(h2:1<=width)(h5:width<=8)(hao:(Hp h).len≠0->(Hp h).ao=some ⟨bD,0,none⟩)(hcap:(Hp h).len<=(Hp h).cap):
 Calls Tryz.prog 142 #[.pointer (some ⟨bC,0,none⟩),.int .i64 h,.int .u64 address,.int .u64 width,.bool wr] w fun e w'=>Seen base bC n vO xs 1 address w w'/\
  (if lies (Hp h).base address width (Hp h).len&&(!wr||(Hp h).wr)then e=.returned (.slice (some ⟨bD,(address-(Hp h).base).toNat,none⟩) width ((Hp h).cap-(address-(Hp h).base).toNat))else e=.panicked [{v:=.iface 124 (.agg #[]),recovered:=false}]):=by
 have HO:Hid (w.ownsRow base 82 2 vO n xs):=hown;clear hown;go_enter Tryz.func142,Tryz.ntmps142;go_wp2_with fail;refine(see_any base bC n vO xs _ address _ hn (by omega) (by omega) hne c8 hf HO.out).mono ?_;rintro e w2⟨v',w1,rfl,o1,g1,hw2⟩;have q5:=(World.cell?_of_block (a:=⟨bC,5,none⟩) (g1.block bC hC hne)).trans c5;have hH:=hat.lt;have gH:=g1.block bH hH hnH;have p0:=(World.cell?_of_block (a:=⟨bH,h*3,none⟩) gH).trans ((by simpa using hat.cell (i:=h*3+0) (by omega):w.cell? ⟨bH,h*3,none⟩=some (heapF Hp (h*3+0))).trans (congrArg some (heapF_0 Hp h)));have p1:=(World.cell?_of_block (a:=⟨bH,h*3+1,none⟩) gH).trans ((by simpa using hat.cell (i:=h*3+1) (by omega):w.cell? ⟨bH,h*3+1,none⟩=some (heapF Hp (h*3+1))).trans (congrArg some (heapF_1 Hp h)));have p2:=(World.cell?_of_block (a:=⟨bH,h*3+2,none⟩) gH).trans ((by simpa using hat.cell (i:=h*3+2) (by omega):w.cell? ⟨bH,h*3+2,none⟩=some (heapF Hp (h*3+2))).trans (congrArg some (heapF_2 Hp h)));have r0:=(World.cell?_setCell_far w1 ⟨bC,8,none⟩ ⟨bH,h*3,none⟩ v' hCH).trans p0;have r1:=(World.cell?_setCell_far w1 ⟨bC,8,none⟩ ⟨bH,h*3+1,none⟩ v' hCH).trans p1;have r2:=(World.cell?_setCell_far w1 ⟨bC,8,none⟩ ⟨bH,h*3+2,none⟩ v' hCH).trans p2;have zH:bH<w1.heap.size:=Nat.lt_of_lt_of_le hH g1.size;have zC:bC<w1.heap.size:=Nat.lt_of_lt_of_le hC g1.size;have HX:Hid _:=o1;have HY:Hid _:=g1;have HA:Hid _:=hat;clear o1 g1 c8 hf c5 hat gH p0 p1 p2;subst hw2;go_wp2_with fail;refine(liesIn_any _ address width _ _ _ _ _ hlen h0 h1 (by omega) h3 h4 (by omega)).mono ?_;rintro e w3⟨rfl,hb3⟩;have s0:=(hb3.cell (p:=⟨w1.heap.size,0,none⟩) (by simp)).trans (show _=some (Value.int .u64 (Hp h).base)by simp[go_sem]);have s1:=(hb3.cell (p:=⟨w1.heap.size,1,none⟩) (by simp)).trans (show _=some (Value.bool (Hp h).wr)by simp[go_sem]);have s2:=(hb3.cell (p:=⟨w1.heap.size,2,none⟩) (by simp)).trans (show _=some (Value.slice (Hp h).ao (Hp h).len (Hp h).cap)by simp[go_sem]);have HS:Hid (Seen base bC n vO xs 1 address w w3):=⟨v',w1,HX.out,HY.out,((Below.refl _ _).alloc (by simp) _).trans (hb3.mono (by simp))⟩
 clear hb3 r0 r1 r2 q5 HX HY HA HO;cases hl:lies (Hp h).base address width (Hp h).len with
 |false=>
  clear s0 s1 s2;go_wp2;all_goals exact⟨rfl,HS.out,rfl⟩
 |true=>
  have hl':=hl;simp only[lies,Bool.and_eq_true,decide_eq_true_eq]at hl';obtain⟨⟨l1,l2⟩,l3⟩:=hl';have HL:Hid _:=hl;clear hl;have ha:=hao (by omega);have hw0:(address-(Hp h).base+(width:Int)).toNat-(address-(Hp h).base).toNat=width:=by omega
  have HW:Hid _:=hw0;clear hw0;rw[ha]at s2;cases wr with
  |false=>
   go_wp2;all_goals(go_ret;exact⟨HS.out,by rw[HW.out];rfl⟩)
  |true=>
   cases hw:(Hp h).wr with
   |false=>
    rw[hw]at s1;go_wp2;all_goals exact⟨rfl,HS.out,rfl⟩
   |true=>
    rw[hw]at s1;go_wp2;all_goals(go_ret;exact⟨HS.out,by rw[HW.out];rfl⟩)
theorem Seen.of_below{base bC n:Nat}{vO:Value}{xs:List Value}{kind val:Int}{w w1 w2:World}(hb:Below w.heap.size w w1)(h:Seen base bC n vO xs kind val w1 w2):Seen base bC n vO xs kind val w w2:=by
 obtain⟨v',u,o,g,k⟩:=h;exact⟨v',u,o,grownBy_below hb g,k⟩
theorem loadN_no(base bC bF bW n:Nat)(vO:Value)(xs:List Value)(op d a b imm hh address width:Int)(w:World)(hF:bF<w.heap.size)(hW:bW<w.heap.size)
 (cF:w.cell? ⟨bF,0,none⟩=some (.func (.func 124) #[] #[]))(cW:w.cell? ⟨bW,0,none⟩=some (.int .u64 width))
 (hadr:∀w',Below w.heap.size w w'->Calls Tryz.prog 124 #[.pointer (some ⟨bC,0,none⟩),.agg #[.int .i64 op,.int .i64 d,.int .i64 a,.int .i64 b,.int .i64 imm,.int .i64 hh]] w' fun e w''=>e=.returned (.int .u64 address)/\Below w'.heap.size w' w'')
 (hcell:∀w',Below w.heap.size w w'->Calls Tryz.prog 142 #[.pointer (some ⟨bC,0,none⟩),.int .i64 hh,.int .u64 address,.int .u64 width,.bool false] w' fun e w''=>e=.panicked [{v:=.iface 124 (.agg #[]),recovered:=false}]/\Seen base bC n vO xs 1 address w' w''):
 Calls Tryz.prog 141 #[.pointer (some ⟨bC,0,none⟩),.agg #[.int .i64 op,.int .i64 d,.int .i64 a,.int .i64 b,.int .i64 imm,.int .i64 hh],.pointer (some ⟨bF,0,none⟩),.pointer (some ⟨bW,0,none⟩)] w fun e w'=>e=.panicked [{v:=.iface 124 (.agg #[]),recovered:=false}]/\Seen base bC n vO xs 1 address w w':=by
 go_enter Tryz.func141,Tryz.ntmps141;go_wp2_with fail;generalize hG:w.alloc (.cells #[.int .i64 op,.int .i64 d,.int .i64 a,.int .i64 b,.int .i64 imm,.int .i64 hh] 30)=wb;have xb:Below w.heap.size w wb:=by rw[<-hG];exact(Below.refl _ _).alloc (Nat.le_refl _) _
 have xy:w.heap.size<wb.heap.size:=by rw[<-hG];simp
 have j0:∀w',Below wb.heap.size wb w'->w'.cell? ⟨w.heap.size,0,none⟩=some (.int .i64 op):=fun w' h=>(h.cell (p:=⟨w.heap.size,0,none⟩) xy).trans (by rw[<-hG];simp[go_sem])
 have j1:∀w',Below wb.heap.size wb w'->w'.cell? ⟨w.heap.size,1,none⟩=some (.int .i64 d):=fun w' h=>(h.cell (p:=⟨w.heap.size,1,none⟩) xy).trans (by rw[<-hG];simp[go_sem])
 have j2:∀w',Below wb.heap.size wb w'->w'.cell? ⟨w.heap.size,2,none⟩=some (.int .i64 a):=fun w' h=>(h.cell (p:=⟨w.heap.size,2,none⟩) xy).trans (by rw[<-hG];simp[go_sem])
 have j3:∀w',Below wb.heap.size wb w'->w'.cell? ⟨w.heap.size,3,none⟩=some (.int .i64 b):=fun w' h=>(h.cell (p:=⟨w.heap.size,3,none⟩) xy).trans (by rw[<-hG];simp[go_sem])
 have j4:∀w',Below wb.heap.size wb w'->w'.cell? ⟨w.heap.size,4,none⟩=some (.int .i64 imm):=fun w' h=>(h.cell (p:=⟨w.heap.size,4,none⟩) xy).trans (by rw[<-hG];simp[go_sem])
 have j5:∀w',Below wb.heap.size wb w'->w'.cell? ⟨w.heap.size,5,none⟩=some (.int .i64 hh):=fun w' h=>(h.cell (p:=⟨w.heap.size,5,none⟩) xy).trans (by rw[<-hG];simp[go_sem])
 have zF:bF<wb.heap.size:=by omega
 have zW:bW<wb.heap.size:=by omega
 have R0:∀w',Below wb.heap.size wb w'->w'.cell? ⟨bF,0,none⟩=some (.func (.func 124) #[] #[]):=fun w' h=>(h.cell (p:=⟨bF,0,none⟩) zF).trans ((xb.cell (p:=⟨bF,0,none⟩) hF).trans cF)
 have R1:∀w',Below wb.heap.size wb w'->w'.cell? ⟨bW,0,none⟩=some (.int .u64 width):=fun w' h=>(h.cell (p:=⟨bW,0,none⟩) zW).trans ((xb.cell (p:=⟨bW,0,none⟩) hW).trans cW)
 clear hG cF cW;refine wp_region_held_drew (S:=fun w'=>Below wb.heap.size wb w') (by kernel_rfl) ((Below.refl _ _).drew) (fun hHeld=>?_);refine wpAnyH_ta 0 rfl ?_;refine wpAnyH_ta 1 rfl ?_;refine wpAnyH_ta 2 rfl ?_;refine wpAnyH_ta 3 rfl ?_;refine wpAnyH_ta 4 rfl ?_;refine wpAnyH_ta 5 rfl ?_;refine wpAnyH_ta 7 rfl ?_;refine wpAnyH_ready (rs:=[6]) (by kernel_rfl) (by simp) ?_;refine AllReadyH.cons rfl (fun K hK=>?_) AllReadyH.nil;go_simp;refine(hadr _ (xb.trans ((Below.refl _ _).drew.mono (Nat.le_of_lt xy)))).mono ?_;rintro e wa⟨rfl,hb0⟩;go_wp2_with fail;refine hK.out _ _ ((Below.refl _ _).drew.trans hb0) (fun hHeld6=>?_);clear hK K;refine wpAnyH_ready (rs:=[8]) (by kernel_rfl) (by simp) ?_;refine AllReadyH.cons rfl (fun K hK=>?_) AllReadyH.nil;go_simp;have xa:Below w.heap.size w wa:=xb.trans (((Below.refl _ _).drew.trans hb0).mono (Nat.le_of_lt xy));refine(hcell _ xa).mono ?_;rintro e w2⟨rfl,hs⟩;exact⟨rfl,rfl,Seen.of_below xa hs⟩
theorem loadX_no(base bC bF bW n:Nat)(vO:Value)(xs:List Value)(op d a b imm hh address width:Int)(w:World)(hF:bF<w.heap.size)(hW:bW<w.heap.size)
 (cF:w.cell? ⟨bF,0,none⟩=some (.func (.func 126) #[] #[]))(cW:w.cell? ⟨bW,0,none⟩=some (.int .u64 width))
 (hadr:∀w',Below w.heap.size w w'->Calls Tryz.prog 126 #[.pointer (some ⟨bC,0,none⟩),.agg #[.int .i64 op,.int .i64 d,.int .i64 a,.int .i64 b,.int .i64 imm,.int .i64 hh]] w' fun e w''=>e=.returned (.int .u64 address)/\Below w'.heap.size w' w'')
 (hcell:∀w',Below w.heap.size w w'->Calls Tryz.prog 142 #[.pointer (some ⟨bC,0,none⟩),.int .i64 hh,.int .u64 address,.int .u64 width,.bool false] w' fun e w''=>e=.panicked [{v:=.iface 124 (.agg #[]),recovered:=false}]/\Seen base bC n vO xs 1 address w' w''):
 Calls Tryz.prog 141 #[.pointer (some ⟨bC,0,none⟩),.agg #[.int .i64 op,.int .i64 d,.int .i64 a,.int .i64 b,.int .i64 imm,.int .i64 hh],.pointer (some ⟨bF,0,none⟩),.pointer (some ⟨bW,0,none⟩)] w fun e w'=>e=.panicked [{v:=.iface 124 (.agg #[]),recovered:=false}]/\Seen base bC n vO xs 1 address w w':=by
 go_enter Tryz.func141,Tryz.ntmps141;go_wp2_with fail;generalize hG:w.alloc (.cells #[.int .i64 op,.int .i64 d,.int .i64 a,.int .i64 b,.int .i64 imm,.int .i64 hh] 30)=wb;have xb:Below w.heap.size w wb:=by rw[<-hG];exact(Below.refl _ _).alloc (Nat.le_refl _) _
 have xy:w.heap.size<wb.heap.size:=by rw[<-hG];simp
 have j0:∀w',Below wb.heap.size wb w'->w'.cell? ⟨w.heap.size,0,none⟩=some (.int .i64 op):=fun w' h=>(h.cell (p:=⟨w.heap.size,0,none⟩) xy).trans (by rw[<-hG];simp[go_sem])
 have j1:∀w',Below wb.heap.size wb w'->w'.cell? ⟨w.heap.size,1,none⟩=some (.int .i64 d):=fun w' h=>(h.cell (p:=⟨w.heap.size,1,none⟩) xy).trans (by rw[<-hG];simp[go_sem])
 have j2:∀w',Below wb.heap.size wb w'->w'.cell? ⟨w.heap.size,2,none⟩=some (.int .i64 a):=fun w' h=>(h.cell (p:=⟨w.heap.size,2,none⟩) xy).trans (by rw[<-hG];simp[go_sem])
 have j3:∀w',Below wb.heap.size wb w'->w'.cell? ⟨w.heap.size,3,none⟩=some (.int .i64 b):=fun w' h=>(h.cell (p:=⟨w.heap.size,3,none⟩) xy).trans (by rw[<-hG];simp[go_sem])
 have j4:∀w',Below wb.heap.size wb w'->w'.cell? ⟨w.heap.size,4,none⟩=some (.int .i64 imm):=fun w' h=>(h.cell (p:=⟨w.heap.size,4,none⟩) xy).trans (by rw[<-hG];simp[go_sem])
 have j5:∀w',Below wb.heap.size wb w'->w'.cell? ⟨w.heap.size,5,none⟩=some (.int .i64 hh):=fun w' h=>(h.cell (p:=⟨w.heap.size,5,none⟩) xy).trans (by rw[<-hG];simp[go_sem])
 have zF:bF<wb.heap.size:=by omega
 have zW:bW<wb.heap.size:=by omega
 have R0:∀w',Below wb.heap.size wb w'->w'.cell? ⟨bF,0,none⟩=some (.func (.func 126) #[] #[]):=fun w' h=>(h.cell (p:=⟨bF,0,none⟩) zF).trans ((xb.cell (p:=⟨bF,0,none⟩) hF).trans cF)
 have R1:∀w',Below wb.heap.size wb w'->w'.cell? ⟨bW,0,none⟩=some (.int .u64 width):=fun w' h=>(h.cell (p:=⟨bW,0,none⟩) zW).trans ((xb.cell (p:=⟨bW,0,none⟩) hW).trans cW)
 clear hG cF cW;refine wp_region_held_drew (S:=fun w'=>Below wb.heap.size wb w') (by kernel_rfl) ((Below.refl _ _).drew) (fun hHeld=>?_);refine wpAnyH_ta 0 rfl ?_;refine wpAnyH_ta 1 rfl ?_;refine wpAnyH_ta 2 rfl ?_;refine wpAnyH_ta 3 rfl ?_;refine wpAnyH_ta 4 rfl ?_;refine wpAnyH_ta 5 rfl ?_;refine wpAnyH_ta 7 rfl ?_;refine wpAnyH_ready (rs:=[6]) (by kernel_rfl) (by simp) ?_;refine AllReadyH.cons rfl (fun K hK=>?_) AllReadyH.nil;go_simp;refine(hadr _ (xb.trans ((Below.refl _ _).drew.mono (Nat.le_of_lt xy)))).mono ?_;rintro e wa⟨rfl,hb0⟩;go_wp2_with fail;refine hK.out _ _ ((Below.refl _ _).drew.trans hb0) (fun hHeld6=>?_);clear hK K;refine wpAnyH_ready (rs:=[8]) (by kernel_rfl) (by simp) ?_;refine AllReadyH.cons rfl (fun K hK=>?_) AllReadyH.nil;go_simp;have xa:Below w.heap.size w wa:=xb.trans (((Below.refl _ _).drew.trans hb0).mono (Nat.le_of_lt xy));refine(hcell _ xa).mono ?_;rintro e w2⟨rfl,hs⟩;exact⟨rfl,rfl,Seen.of_below xa hs⟩
theorem storeN_no(base bC bF bW n:Nat)(vO:Value)(xs:List Value)(op d a b imm hh address width:Int)(w:World)(hF:bF<w.heap.size)(hW:bW<w.heap.size)
 (cF:w.cell? ⟨bF,0,none⟩=some (.func (.func 124) #[] #[]))(cW:w.cell? ⟨bW,0,none⟩=some (.int .u64 width))
 (hadr:∀w',Below w.heap.size w w'->Calls Tryz.prog 124 #[.pointer (some ⟨bC,0,none⟩),.agg #[.int .i64 op,.int .i64 d,.int .i64 a,.int .i64 b,.int .i64 imm,.int .i64 hh]] w' fun e w''=>e=.returned (.int .u64 address)/\Below w'.heap.size w' w'')
 (hcell:∀w',Below w.heap.size w w'->Calls Tryz.prog 142 #[.pointer (some ⟨bC,0,none⟩),.int .i64 hh,.int .u64 address,.int .u64 width,.bool true] w' fun e w''=>e=.panicked [{v:=.iface 124 (.agg #[]),recovered:=false}]/\Seen base bC n vO xs 1 address w' w''):
 Calls Tryz.prog 143 #[.pointer (some ⟨bC,0,none⟩),.agg #[.int .i64 op,.int .i64 d,.int .i64 a,.int .i64 b,.int .i64 imm,.int .i64 hh],.pointer (some ⟨bF,0,none⟩),.pointer (some ⟨bW,0,none⟩)] w fun e w'=>e=.panicked [{v:=.iface 124 (.agg #[]),recovered:=false}]/\Seen base bC n vO xs 1 address w w':=by
 go_enter Tryz.func143,Tryz.ntmps143;go_wp2_with fail;generalize hG:w.alloc (.cells #[.int .i64 op,.int .i64 d,.int .i64 a,.int .i64 b,.int .i64 imm,.int .i64 hh] 30)=wb;have xb:Below w.heap.size w wb:=by rw[<-hG];exact(Below.refl _ _).alloc (Nat.le_refl _) _
 have xy:w.heap.size<wb.heap.size:=by rw[<-hG];simp
 have j0:∀w',Below wb.heap.size wb w'->w'.cell? ⟨w.heap.size,0,none⟩=some (.int .i64 op):=fun w' h=>(h.cell (p:=⟨w.heap.size,0,none⟩) xy).trans (by rw[<-hG];simp[go_sem])
 have j1:∀w',Below wb.heap.size wb w'->w'.cell? ⟨w.heap.size,1,none⟩=some (.int .i64 d):=fun w' h=>(h.cell (p:=⟨w.heap.size,1,none⟩) xy).trans (by rw[<-hG];simp[go_sem])
 have j2:∀w',Below wb.heap.size wb w'->w'.cell? ⟨w.heap.size,2,none⟩=some (.int .i64 a):=fun w' h=>(h.cell (p:=⟨w.heap.size,2,none⟩) xy).trans (by rw[<-hG];simp[go_sem])
 have j3:∀w',Below wb.heap.size wb w'->w'.cell? ⟨w.heap.size,3,none⟩=some (.int .i64 b):=fun w' h=>(h.cell (p:=⟨w.heap.size,3,none⟩) xy).trans (by rw[<-hG];simp[go_sem])
 have j4:∀w',Below wb.heap.size wb w'->w'.cell? ⟨w.heap.size,4,none⟩=some (.int .i64 imm):=fun w' h=>(h.cell (p:=⟨w.heap.size,4,none⟩) xy).trans (by rw[<-hG];simp[go_sem])
 have j5:∀w',Below wb.heap.size wb w'->w'.cell? ⟨w.heap.size,5,none⟩=some (.int .i64 hh):=fun w' h=>(h.cell (p:=⟨w.heap.size,5,none⟩) xy).trans (by rw[<-hG];simp[go_sem])
 have zF:bF<wb.heap.size:=by omega
 have zW:bW<wb.heap.size:=by omega
 have R0:∀w',Below wb.heap.size wb w'->w'.cell? ⟨bF,0,none⟩=some (.func (.func 124) #[] #[]):=fun w' h=>(h.cell (p:=⟨bF,0,none⟩) zF).trans ((xb.cell (p:=⟨bF,0,none⟩) hF).trans cF)
 have R1:∀w',Below wb.heap.size wb w'->w'.cell? ⟨bW,0,none⟩=some (.int .u64 width):=fun w' h=>(h.cell (p:=⟨bW,0,none⟩) zW).trans ((xb.cell (p:=⟨bW,0,none⟩) hW).trans cW)
 clear hG cF cW;refine wp_region_held_drew (S:=fun w'=>Below wb.heap.size wb w') (by kernel_rfl) ((Below.refl _ _).drew) (fun hHeld=>?_);refine wpAnyH_ta 0 rfl ?_;refine wpAnyH_ta 1 rfl ?_;refine wpAnyH_ta 2 rfl ?_;refine wpAnyH_ta 3 rfl ?_;refine wpAnyH_ta 4 rfl ?_;refine wpAnyH_ta 5 rfl ?_;refine wpAnyH_ta 7 rfl ?_;refine wpAnyH_ready (rs:=[6]) (by kernel_rfl) (by simp) ?_;refine AllReadyH.cons rfl (fun K hK=>?_) AllReadyH.nil;go_simp;refine(hadr _ (xb.trans ((Below.refl _ _).drew.mono (Nat.le_of_lt xy)))).mono ?_;rintro e wa⟨rfl,hb0⟩;go_wp2_with fail;refine hK.out _ _ ((Below.refl _ _).drew.trans hb0) (fun hHeld6=>?_);clear hK K;refine wpAnyH_ready (rs:=[8]) (by kernel_rfl) (by simp) ?_;refine AllReadyH.cons rfl (fun K hK=>?_) AllReadyH.nil;go_simp;have xa:Below w.heap.size w wa:=xb.trans (((Below.refl _ _).drew.trans hb0).mono (Nat.le_of_lt xy));refine(hcell _ xa).mono ?_;rintro e w2⟨rfl,hs⟩;exact⟨rfl,rfl,Seen.of_below xa hs⟩
theorem storeX_no(base bC bF bW n:Nat)(vO:Value)(xs:List Value)(op d a b imm hh address width:Int)(w:World)(hF:bF<w.heap.size)(hW:bW<w.heap.size)
 (cF:w.cell? ⟨bF,0,none⟩=some (.func (.func 126) #[] #[]))(cW:w.cell? ⟨bW,0,none⟩=some (.int .u64 width))
 (hadr:∀w',Below w.heap.size w w'->Calls Tryz.prog 126 #[.pointer (some ⟨bC,0,none⟩),.agg #[.int .i64 op,.int .i64 d,.int .i64 a,.int .i64 b,.int .i64 imm,.int .i64 hh]] w' fun e w''=>e=.returned (.int .u64 address)/\Below w'.heap.size w' w'')
 (hcell:∀w',Below w.heap.size w w'->Calls Tryz.prog 142 #[.pointer (some ⟨bC,0,none⟩),.int .i64 hh,.int .u64 address,.int .u64 width,.bool true] w' fun e w''=>e=.panicked [{v:=.iface 124 (.agg #[]),recovered:=false}]/\Seen base bC n vO xs 1 address w' w''):
 Calls Tryz.prog 143 #[.pointer (some ⟨bC,0,none⟩),.agg #[.int .i64 op,.int .i64 d,.int .i64 a,.int .i64 b,.int .i64 imm,.int .i64 hh],.pointer (some ⟨bF,0,none⟩),.pointer (some ⟨bW,0,none⟩)] w fun e w'=>e=.panicked [{v:=.iface 124 (.agg #[]),recovered:=false}]/\Seen base bC n vO xs 1 address w w':=by
 go_enter Tryz.func143,Tryz.ntmps143;go_wp2_with fail;generalize hG:w.alloc (.cells #[.int .i64 op,.int .i64 d,.int .i64 a,.int .i64 b,.int .i64 imm,.int .i64 hh] 30)=wb;have xb:Below w.heap.size w wb:=by rw[<-hG];exact(Below.refl _ _).alloc (Nat.le_refl _) _
 have xy:w.heap.size<wb.heap.size:=by rw[<-hG];simp
 have j0:∀w',Below wb.heap.size wb w'->w'.cell? ⟨w.heap.size,0,none⟩=some (.int .i64 op):=fun w' h=>(h.cell (p:=⟨w.heap.size,0,none⟩) xy).trans (by rw[<-hG];simp[go_sem])
 have j1:∀w',Below wb.heap.size wb w'->w'.cell? ⟨w.heap.size,1,none⟩=some (.int .i64 d):=fun w' h=>(h.cell (p:=⟨w.heap.size,1,none⟩) xy).trans (by rw[<-hG];simp[go_sem])
 have j2:∀w',Below wb.heap.size wb w'->w'.cell? ⟨w.heap.size,2,none⟩=some (.int .i64 a):=fun w' h=>(h.cell (p:=⟨w.heap.size,2,none⟩) xy).trans (by rw[<-hG];simp[go_sem])
 have j3:∀w',Below wb.heap.size wb w'->w'.cell? ⟨w.heap.size,3,none⟩=some (.int .i64 b):=fun w' h=>(h.cell (p:=⟨w.heap.size,3,none⟩) xy).trans (by rw[<-hG];simp[go_sem])
 have j4:∀w',Below wb.heap.size wb w'->w'.cell? ⟨w.heap.size,4,none⟩=some (.int .i64 imm):=fun w' h=>(h.cell (p:=⟨w.heap.size,4,none⟩) xy).trans (by rw[<-hG];simp[go_sem])
 have j5:∀w',Below wb.heap.size wb w'->w'.cell? ⟨w.heap.size,5,none⟩=some (.int .i64 hh):=fun w' h=>(h.cell (p:=⟨w.heap.size,5,none⟩) xy).trans (by rw[<-hG];simp[go_sem])
 have zF:bF<wb.heap.size:=by omega
 have zW:bW<wb.heap.size:=by omega
 have R0:∀w',Below wb.heap.size wb w'->w'.cell? ⟨bF,0,none⟩=some (.func (.func 126) #[] #[]):=fun w' h=>(h.cell (p:=⟨bF,0,none⟩) zF).trans ((xb.cell (p:=⟨bF,0,none⟩) hF).trans cF)
 have R1:∀w',Below wb.heap.size wb w'->w'.cell? ⟨bW,0,none⟩=some (.int .u64 width):=fun w' h=>(h.cell (p:=⟨bW,0,none⟩) zW).trans ((xb.cell (p:=⟨bW,0,none⟩) hW).trans cW)
 clear hG cF cW;refine wp_region_held_drew (S:=fun w'=>Below wb.heap.size wb w') (by kernel_rfl) ((Below.refl _ _).drew) (fun hHeld=>?_);refine wpAnyH_ta 0 rfl ?_;refine wpAnyH_ta 1 rfl ?_;refine wpAnyH_ta 2 rfl ?_;refine wpAnyH_ta 3 rfl ?_;refine wpAnyH_ta 4 rfl ?_;refine wpAnyH_ta 5 rfl ?_;refine wpAnyH_ta 7 rfl ?_;refine wpAnyH_ready (rs:=[6]) (by kernel_rfl) (by simp) ?_;refine AllReadyH.cons rfl (fun K hK=>?_) AllReadyH.nil;go_simp;refine(hadr _ (xb.trans ((Below.refl _ _).drew.mono (Nat.le_of_lt xy)))).mono ?_;rintro e wa⟨rfl,hb0⟩;go_wp2_with fail;refine hK.out _ _ ((Below.refl _ _).drew.trans hb0) (fun hHeld6=>?_);clear hK K;refine wpAnyH_ready (rs:=[8]) (by kernel_rfl) (by simp) ?_;refine AllReadyH.cons rfl (fun K hK=>?_) AllReadyH.nil;go_simp;have xa:Below w.heap.size w wa:=xb.trans (((Below.refl _ _).drew.trans hb0).mono (Nat.le_of_lt xy));refine(hcell _ xa).mono ?_;rintro e w2⟨rfl,hs⟩;exact⟨rfl,rfl,Seen.of_below xa hs⟩
end Go.Proofs.YtbahofiiaodpdaaGreat
