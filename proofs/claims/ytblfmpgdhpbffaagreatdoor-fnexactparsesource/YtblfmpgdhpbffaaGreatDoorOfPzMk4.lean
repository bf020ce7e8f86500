import Derived.Test.YtblfmpgdhpbffaaGreatDoorPzMk1
import Derived.Test.YtblfmpgdhpbffaaGreatDoorOfPzCell
set_option maxHeartbeats 4000000
set_option maxRecDepth 20000
namespace Go.Proofs.YtblfmpgdhpbffaaGreatDoor
open Go.RowKit
def hs0:HS:=⟨0,false,false⟩
theorem fm_at{α:Type}(g:α->List Value)(z:Nat)(hz:∀a,(g a).length=z)(C:α->Nat->Value)(hC:∀a j,j<z->(g a)[j]?=some (C a j))(xs:List α)(d:α)(i:Nat)(hi:i<xs.length*z):(xs.flatMap g)[i]?=some (C (xs.getD (i/z) d) (i%z)):=by
 have zp:0<z:=Nat.pos_of_ne_zero (fun e=>by rw[e]at hi;simp at hi);have hq:i/z<xs.length:=(Nat.div_lt_iff_lt_mul zp).2 hi;have hr:i%z<z:=Nat.mod_lt _ zp;have e:i=(i/z)*z+i%z:=by rw[Nat.mul_comm];exact(Nat.div_add_mod i z).symm
 have h:=fm_get g z hz xs (i/z) (i%z) (xs.getD (i/z) d) (by rw[List.getD_eq_getElem?_getD,List.getElem?_eq_getElem hq];rfl) hr;rw[<-e]at h;rw[h,hC _ _ hr]
def Mk(z:Nat)(m:Nat->Value)(w:World)(v:Value)(n:Nat):Prop:=n=0∨∃g c,v=.slice (some ⟨g,0,none⟩) n c/\Arr w g (n*z) m
theorem Mk.fr{z:Nat}{m:Nat->Value}{w w':World}{v:Value}{n:Nat}{S:Nat->Prop}(h:Mk z m w v n)(f:Fr S w w')(hn:∀q,v.ownBlock=some q->¬S q):Mk z m w' v n:=by
 rcases h with h|⟨g,c,rfl,ha⟩
 ·exact .inl h
 ·exact .inr ⟨g,c,rfl,f.arr ha (hn g rfl)⟩
theorem Mk.below{z:Nat}{m:Nat->Value}{w w':World}{v:Value}{n:Nat}(h:Mk z m w v n)(b:Below w.heap.size w w'):Mk z m w' v n:=h.fr (S:=fun _=>False) (Fr.of_below b) (fun _ _ e=>e)
theorem row_frZ{S:Nat->Prop}{w w':World}{base e size n:Nat}{v:Value}{xs:List Value}(h:w.ownsRow base e size v n xs)(f:Fr S w w')(hn:∀q,v.ownBlock=some q->¬S q):w'.ownsRow base e size v n xs:=
 row_belowZ h fun k hk=>f.block k (h.lt k hk).2 (hn k hk)
theorem row_zeroZ{w:World}{base e size n:Nat}{v:Value}{xs:List Value}(h:w.ownsRow base e size v n xs)(hn:n=0):∃(ao:Option Addr)(c:Nat),v=.slice ao 0 c:=by
 obtain⟨ao,c,e⟩:=row_sliceZ h;rw[hn]at e;exact⟨ao,c,e⟩
theorem eqValS_nil(ao ao':Option Addr)(cap cap':Nat)(w:World):
 Calls Tryz.prog 71 #[.slice ao 0 cap,.slice ao' 0 cap'] w fun e w'=>e=.returned (.bool true)/\Below w.heap.size w w':=by
 go_enter Tryz.func71,Tryz.ntmps71;go_wp2;refine wp_loop_rounds 1 ?_;rw[rounds_succ];go_wp2;go_ret;exact⟨rfl,Below.refl _ _⟩
theorem eqHeapSigS_nil(ao ao':Option Addr)(cap cap':Nat)(w:World):
 Calls Tryz.prog 70 #[.slice ao 0 cap,.slice ao' 0 cap'] w fun e w'=>e=.returned (.bool true)/\Below w.heap.size w w':=by
 go_enter Tryz.func70,Tryz.ntmps70;go_wp2;refine wp_loop_rounds 1 ?_;rw[rounds_succ];go_wp2;go_ret;exact⟨rfl,Below.refl _ _⟩
theorem rowS_arr{w:World}{base g c:Nat}{xs:List SV}(h:w.ownsRow base 93 11 (.slice (some ⟨g,0,none⟩) xs.length c) xs.length (xs.flatMap stL)):Arr w g (xs.length*11) (stF (fun i=>xs.getD i sv0)):=
 ⟨(h.lt g rfl).2,fun i=>h.frozenAt i,fun i hi=>by rw[h.cellAt i hi];exact fm_at stL 11 (fun _=>rfl) stC (by intro a j hj;match j,hj with|0,_=>rfl|1,_=>rfl|2,_=>rfl|3,_=>rfl|4,_=>rfl|5,_=>rfl|6,_=>rfl|7,_=>rfl|8,_=>rfl|9,_=>rfl|10,_=>rfl) xs sv0 i hi⟩
theorem eqS_rows{b1 b2:Nat}{v v':Value}(xs:List SV)(w:World)(hlen:xs.length<=1048576)(h:w.ownsRow b1 93 11 v xs.length (xs.flatMap stL))(h':w.ownsRow b2 93 11 v' xs.length (xs.flatMap stL)):
 Calls Tryz.prog 114 #[v,v'] w fun e w'=>e=.returned (.bool true)/\Below w.heap.size w w':=by
 by_cases h0:xs.length=0
 ·obtain⟨ao,c,rfl⟩:=row_zeroZ h h0
  obtain⟨ao',c',rfl⟩:=row_zeroZ h' h0;exact eqStmtS_nil ao ao' c c' w
 ·obtain⟨g,c,rfl,_⟩:=row_someZ h (by omega)
  obtain⟨g',c',rfl,_⟩:=row_someZ h' (by omega);exact eqStmtS_same g 0 xs.length c g' 0 c' _ w hlen (rowS_arr h).at (rowS_arr h').at
theorem markS_row{base:Nat}{v:Value}(xs:List SV)(k:Int)(w:World)(hlen:xs.length<=1048576)(k0:0<=k)(k1:k<=1125899906842624)(h:w.ownsRow base 93 11 v xs.length (xs.flatMap stL)):
 Calls Tryz.prog 75 #[v,.int .i64 k] w fun e w'=>e=.returned (.int .i64 (k+11*(xs.length:Int)))/\Fr (fun q=>v.ownBlock=some q) w w'/\Mk 11 (markF k) w' v xs.length:=by
 by_cases h0:xs.length=0
 ·obtain⟨ao,c,rfl⟩:=row_zeroZ h h0
  refine(markStmtS_nil ao c k w).mono ?_;rintro e w'⟨rfl,rfl⟩;exact⟨congrArg (fun n:Int=>Ending.returned (.int .i64 n)) (by rw[h0];simp),Fr.refl _ _,.inl h0⟩
 ·obtain⟨g,c,rfl,_⟩:=row_someZ h (by omega)
  refine(markStmtS_at g xs.length c _ k w hlen k0 k1 (rowS_arr h)).mono ?_;rintro e w'⟨rfl,hf,ha⟩;exact⟨rfl,hf.mono (fun q e=>by rw[e];rfl),.inr ⟨g,c,rfl,ha⟩⟩
theorem heldS_row{base:Nat}{v:Value}(xs:List SV)(k:Int)(w w0:World)(hlen:xs.length<=1048576)(k0:0<=k)(k1:k<=1125899906842624)(h:w0.ownsRow base 93 11 v xs.length (xs.flatMap stL))(hm:Mk 11 (markF k) w v xs.length):
 Calls Tryz.prog 78 #[v,.int .i64 k] w fun e w'=>e=.returned (.int .i64 (k+11*(xs.length:Int)))/\w'=w:=by
 rcases hm with h0|⟨g,c,rfl,ha⟩
 ·obtain⟨ao,c,rfl⟩:=row_zeroZ h h0
  refine(heldStmtS_nil ao c k w).mono ?_;rintro e w'⟨rfl,rfl⟩;exact⟨congrArg (fun n:Int=>Ending.returned (.int .i64 n)) (by rw[h0];simp),rfl⟩
 ·exact heldStmtS_at g xs.length c k w hlen k0 k1 ha
theorem rowV_arr{w:World}{base g c:Nat}{xs:List VV}(h:w.ownsRow base 47 6 (.slice (some ⟨g,0,none⟩) xs.length c) xs.length (xs.flatMap vlL)):Arr w g (xs.length*6) (vF (fun i=>xs.getD i vv0)):=
 ⟨(h.lt g rfl).2,fun i=>h.frozenAt i,fun i hi=>by rw[h.cellAt i hi];exact fm_at vlL 6 (fun _=>rfl) vC (by intro a j hj;match j,hj with|0,_=>rfl|1,_=>rfl|2,_=>rfl|3,_=>rfl|4,_=>rfl|5,_=>rfl) xs vv0 i hi⟩
theorem eqV_rows{b1 b2:Nat}{v v':Value}(xs:List VV)(w:World)(hlen:xs.length<=1048576)(h:w.ownsRow b1 47 6 v xs.length (xs.flatMap vlL))(h':w.ownsRow b2 47 6 v' xs.length (xs.flatMap vlL)):
 Calls Tryz.prog 71 #[v,v'] w fun e w'=>e=.returned (.bool true)/\Below w.heap.size w w':=by
 by_cases h0:xs.length=0
 ·obtain⟨ao,c,rfl⟩:=row_zeroZ h h0
  obtain⟨ao',c',rfl⟩:=row_zeroZ h' h0;exact eqValS_nil ao ao' c c' w
 ·obtain⟨g,c,rfl,_⟩:=row_someZ h (by omega)
  obtain⟨g',c',rfl,_⟩:=row_someZ h' (by omega);exact eqValS_same g 0 xs.length c g' 0 c' _ w hlen (rowV_arr h).at (rowV_arr h').at
theorem markV_row{base:Nat}{v:Value}(xs:List VV)(k:Int)(w:World)(hlen:xs.length<=1048576)(k0:0<=k)(k1:k<=1125899906842624)(h:w.ownsRow base 47 6 v xs.length (xs.flatMap vlL)):
 Calls Tryz.prog 74 #[v,.int .i64 k] w fun e w'=>e=.returned (.int .i64 (k+6*(xs.length:Int)))/\Fr (fun q=>v.ownBlock=some q) w w'/\Mk 6 (vF (mV k)) w' v xs.length:=by
 by_cases h0:xs.length=0
 ·obtain⟨ao,c,rfl⟩:=row_zeroZ h h0
  refine(markVals_nil ao c k w).mono ?_;rintro e w'⟨rfl,rfl⟩;exact⟨congrArg (fun n:Int=>Ending.returned (.int .i64 n)) (by rw[h0];simp),Fr.refl _ _,.inl h0⟩
 ·obtain⟨g,c,rfl,_⟩:=row_someZ h (by omega)
  refine(markVals_at g xs.length c _ k w hlen k0 k1 (rowV_arr h)).mono ?_;rintro e w'⟨rfl,hf,ha⟩;exact⟨rfl,hf.mono (fun q e=>by rw[e.2];rfl),.inr ⟨g,c,rfl,ha⟩⟩
theorem heldV_row{base:Nat}{v:Value}(xs:List VV)(k:Int)(w w0:World)(hlen:xs.length<=1048576)(k0:0<=k)(k1:k<=1125899906842624)(h:w0.ownsRow base 47 6 v xs.length (xs.flatMap vlL))(hm:Mk 6 (vF (mV k)) w v xs.length):
 Calls Tryz.prog 77 #[v,.int .i64 k] w fun e w'=>e=.returned (.int .i64 (k+6*(xs.length:Int)))/\w'=w:=by
 rcases hm with h0|⟨g,c,rfl,ha⟩
 ·obtain⟨ao,c,rfl⟩:=row_zeroZ h h0
  refine(heldVals_nil ao c k w).mono ?_;rintro e w'⟨rfl,rfl⟩;exact⟨congrArg (fun n:Int=>Ending.returned (.int .i64 n)) (by rw[h0];simp),rfl⟩
 ·exact heldVals_at g 0 xs.length c k w hlen k0 k1 ha.at
theorem rowH_arr{w:World}{base g c:Nat}{xs:List HS}(h:w.ownsRow base 88 3 (.slice (some ⟨g,0,none⟩) xs.length c) xs.length (xs.flatMap hsL)):Arr w g (xs.length*3) (hsF (fun i=>xs.getD i hs0)):=
 ⟨(h.lt g rfl).2,fun i=>h.frozenAt i,fun i hi=>by rw[h.cellAt i hi];exact fm_at hsL 3 (fun _=>rfl) hsC (by intro a j hj;match j,hj with|0,_=>rfl|1,_=>rfl|2,_=>rfl) xs hs0 i hi⟩
theorem eqH_rows{b1 b2:Nat}{v v':Value}(xs:List HS)(w:World)(hlen:xs.length<=1048576)(h:w.ownsRow b1 88 3 v xs.length (xs.flatMap hsL))(h':w.ownsRow b2 88 3 v' xs.length (xs.flatMap hsL)):
 Calls Tryz.prog 70 #[v,v'] w fun e w'=>e=.returned (.bool true)/\Below w.heap.size w w':=by
 by_cases h0:xs.length=0
 ·obtain⟨ao,c,rfl⟩:=row_zeroZ h h0
  obtain⟨ao',c',rfl⟩:=row_zeroZ h' h0;exact eqHeapSigS_nil ao ao' c c' w
 ·obtain⟨g,c,rfl,_⟩:=row_someZ h (by omega)
  obtain⟨g',c',rfl,_⟩:=row_someZ h' (by omega);exact eqHeapSigS_same g 0 xs.length c g' 0 c' _ w hlen (rowH_arr h).at (rowH_arr h').at
theorem markH_row{base:Nat}{v:Value}(xs:List HS)(k:Int)(w:World)(hlen:xs.length<=1048576)(k0:0<=k)(k1:k<=1125899906842624)(h:w.ownsRow base 88 3 v xs.length (xs.flatMap hsL)):
 Calls Tryz.prog 73 #[v,.int .i64 k] w fun e w'=>e=.returned (.int .i64 (k+3*(xs.length:Int)))/\Fr (fun q=>v.ownBlock=some q) w w'/\Mk 3 (hsF (mH k)) w' v xs.length:=by
 by_cases h0:xs.length=0
 ·obtain⟨ao,c,rfl⟩:=row_zeroZ h h0
  refine(markHS_nil ao c k w).mono ?_;rintro e w'⟨rfl,rfl⟩;exact⟨congrArg (fun n:Int=>Ending.returned (.int .i64 n)) (by rw[h0];simp),Fr.refl _ _,.inl h0⟩
 ·obtain⟨g,c,rfl,_⟩:=row_someZ h (by omega)
  refine(markHS_at g xs.length c _ k w hlen k0 k1 (rowH_arr h)).mono ?_;rintro e w'⟨rfl,hf,ha⟩;exact⟨rfl,hf.mono (fun q e=>by rw[e.2];rfl),.inr ⟨g,c,rfl,ha⟩⟩
theorem heldH_row{base:Nat}{v:Value}(xs:List HS)(k:Int)(w w0:World)(hlen:xs.length<=1048576)(k0:0<=k)(k1:k<=1125899906842624)(h:w0.ownsRow base 88 3 v xs.length (xs.flatMap hsL))(hm:Mk 3 (hsF (mH k)) w v xs.length):
 Calls Tryz.prog 76 #[v,.int .i64 k] w fun e w'=>e=.returned (.int .i64 (k+3*(xs.length:Int)))/\w'=w:=by
 rcases hm with h0|⟨g,c,rfl,ha⟩
 ·obtain⟨ao,c,rfl⟩:=row_zeroZ h h0
  refine(heldHS_nil ao c k w).mono ?_;rintro e w'⟨rfl,rfl⟩;exact⟨congrArg (fun n:Int=>Ending.returned (.int .i64 n)) (by rw[h0];simp),rfl⟩
 ·exact heldHS_at g 0 xs.length c k w hlen k0 k1 ha.at
structure SG(w:World)(B:Nat)(hs:List HS)(rg:List VV)(vH vR:Value):Prop where
 h:w.ownsRow B 88 3 vH hs.length (hs.flatMap hsL)
 r:w.ownsRow B 47 6 vR rg.length (rg.flatMap vlL)
 d:∀q,vH.ownBlock=some q->vR.ownBlock≠some q
theorem SG.below{w w':World}{B:Nat}{hs:List HS}{rg:List VV}{vH vR:Value}(h:SG w B hs rg vH vR)(b:Below w.heap.size w w'):SG w' B hs rg vH vR:=⟨row_belowB h.h b,row_belowB h.r b,h.d⟩
def MG(w:World)(k:Int)(hs:List HS)(rg:List VV)(vH vR:Value):Prop:=Mk 3 (hsF (mH k)) w vH hs.length/\Mk 6 (vF (mV (k+3*(hs.length:Int)))) w vR rg.length
theorem eqSig_rows{B B':Nat}(hs:List HS)(rg:List VV)(aH aR aH' aR':Option Addr)(cH cR cH' cR':Nat)(w:World)(lH:hs.length<=1048576)(lR:rg.length<=1048576)(h1:SG w B hs rg (.slice aH hs.length cH) (.slice aR rg.length cR))(h2:SG w B' hs rg (.slice aH' hs.length cH') (.slice aR' rg.length cR')):
 Calls Tryz.prog 40 #[.agg #[.slice aH hs.length cH,.slice aR rg.length cR],.agg #[.slice aH' hs.length cH',.slice aR' rg.length cR']] w fun e w'=>e=.returned (.bool true)/\Below w.heap.size w w':=by
 have H1:Hid (SG w B hs rg (.slice aH hs.length cH) (.slice aR rg.length cR)):=h1;have H2:Hid (SG w B' hs rg (.slice aH' hs.length cH') (.slice aR' rg.length cR')):=h2;clear h1 h2;go_enter Tryz.func40,Tryz.ntmps40;go_wp2_with fail;have b0:Below w.heap.size w ((w.alloc (.cells #[.slice aH hs.length cH,.slice aR rg.length cR] 26)).alloc (.cells #[.slice aH' hs.length cH',.slice aR' rg.length cR'] 26)):=((Below.refl _ _).alloc (Nat.le_refl _) _).alloc (by simp) _;have K1:Hid (SG _ B hs rg (.slice aH hs.length cH) (.slice aR rg.length cR)):=H1.out.below b0;have K2:Hid (SG _ B' hs rg (.slice aH' hs.length cH') (.slice aR' rg.length cR')):=H2.out.below b0;have HB0:Hid _:=b0;clear b0;refine(eqH_rows hs _ lH K1.out.h K2.out.h).mono ?_;rintro e w1⟨rfl,hb1⟩;have J1:Hid (SG _ B hs rg (.slice aH hs.length cH) (.slice aR rg.length cR)):=K1.out.below hb1;have J2:Hid (SG _ B' hs rg (.slice aH' hs.length cH') (.slice aR' rg.length cR')):=K2.out.below hb1;have b1:=HB0.out.trans (hb1.mono HB0.out.size);have HB1:Hid _:=b1;obtain⟨hc1,_⟩:=bcell hb1;have hz2:w.heap.size+1<w1.heap.size:=by have:=hb1.size;simp at this;omega
 have hz3:w.heap.size<w1.heap.size:=by omega
 clear hb1 b1 K1 K2 HB0;go_wp2_with fail;refine(eqV_rows rg _ lR J1.out.r J2.out.r).mono ?_;rintro e w2⟨rfl,hb2⟩;go_wp2;go_ret;exact⟨rfl,HB1.out.trans (hb2.mono HB1.out.size)⟩
theorem markSig_rows{B:Nat}(hs:List HS)(rg:List VV)(aH aR:Option Addr)(cH cR:Nat)(k:Int)(w:World)(lH:hs.length<=1048576)(lR:rg.length<=1048576)(k0:0<=k)(k1:k<=1048576)(h:SG w B hs rg (.slice aH hs.length cH) (.slice aR rg.length cR)):
 Calls Tryz.prog 42 #[.agg #[.slice aH hs.length cH,.slice aR rg.length cR],.int .i64 k] w fun e w'=>e=.returned (.int .i64 (k+3*(hs.length:Int)+6*(rg.length:Int)))/\Fr (fun q=>(Value.slice aH hs.length cH).ownBlock=some q∨(Value.slice aR rg.length cR).ownBlock=some q) w w'/\MG w' k hs rg (.slice aH hs.length cH) (.slice aR rg.length cR):=by
 have H:Hid (SG w B hs rg (.slice aH hs.length cH) (.slice aR rg.length cR)):=h;clear h;go_enter Tryz.func42,Tryz.ntmps42;go_wp2_with fail;have b0:Below w.heap.size w (w.alloc (.cells #[.slice aH hs.length cH,.slice aR rg.length cR] 26)):=(Below.refl _ _).alloc (Nat.le_refl _) _;have e0:(w.alloc (.cells #[.slice aH hs.length cH,.slice aR rg.length cR] 26)).heap[w.heap.size]?=some (.cells #[.slice aH hs.length cH,.slice aR rg.length cR] 26):=heap_alloc_newB _ _;have K1:Hid (SG _ B hs rg (.slice aH hs.length cH) (.slice aR rg.length cR)):=H.out.below b0;refine(markH_row hs k _ lH k0 (by omega) K1.out.h).mono ?_;rintro e w1⟨rfl,hf,hm⟩;have c1:w1.heap[w.heap.size]?=some (.cells #[.slice aH hs.length cH,.slice aR rg.length cR] 26):=(hf.block _ (by simp) (fun q=>by have:=(H.out.h.lt _ q).2;omega)).trans e0;have HF1:Hid (Fr (fun q=>(Value.slice aH hs.length cH).ownBlock=some q) w w1):=(Fr.of_below b0).trans hf;have R1:Hid (w1.ownsRow B 47 6 (.slice aR rg.length cR) rg.length (rg.flatMap vlL)):=row_frZ K1.out.r hf (fun q hq e=>H.out.d q e hq);have M1:Hid (Mk 3 (hsF (mH k)) w1 (.slice aH hs.length cH) hs.length):=hm;have a2:=hp_cell c1 1;have az:=(Array.getElem?_eq_some_iff.1 c1).1;simp only[List.getElem?_toArray,List.getElem?_cons_zero,List.getElem?_cons_succ]at a2;obtain⟨k2,hk2⟩:∃y:Int,k+3*(hs.length:Int)=y:=⟨_,rfl⟩
 have HK2:Hid (k+3*(hs.length:Int)=k2):=hk2;rw[hk2];have k20:0<=k2:=by omega
 have k21:k2<=1125899906842624:=by omega
 clear hf e0 b0 c1 hm hk2 K1;go_wp2_with fail;refine(markV_row rg k2 _ lR k20 k21 R1.out).mono ?_;rintro e w2⟨rfl,hf2,hm2⟩;have HF2:Hid (Fr (fun q=>(Value.slice aH hs.length cH).ownBlock=some q∨(Value.slice aR rg.length cR).ownBlock=some q) w w2):=(HF1.out.mono (fun q hq=>.inl hq)).trans (hf2.mono (fun q hq=>.inr hq));have M2:Hid (MG w2 k hs rg (.slice aH hs.length cH) (.slice aR rg.length cR)):=(⟨M1.out.fr hf2 (fun q hq e=>H.out.d q hq e),by rw[HK2.out];exact hm2⟩:MG w2 k hs rg (.slice aH hs.length cH) (.slice aR rg.length cR))
 clear hf2 hm2 a2 az;go_wp2;go_ret;exact⟨congrArg (fun n:Int=>Ending.returned (.int .i64 n)) (by rw[HK2.out]),HF2.out,M2.out⟩
theorem heldSig_rows{B:Nat}(hs:List HS)(rg:List VV)(aH aR:Option Addr)(cH cR:Nat)(k:Int)(w w0:World)(lH:hs.length<=1048576)(lR:rg.length<=1048576)(k0:0<=k)(k1:k<=1048576)(h:SG w0 B hs rg (.slice aH hs.length cH) (.slice aR rg.length cR))(hm:MG w k hs rg (.slice aH hs.length cH) (.slice aR rg.length cR)):
 Calls Tryz.prog 44 #[.agg #[.slice aH hs.length cH,.slice aR rg.length cR],.int .i64 k] w fun e w'=>e=.returned (.int .i64 (k+3*(hs.length:Int)+6*(rg.length:Int)))/\Below w.heap.size w w':=by
 have H:Hid (SG w0 B hs rg (.slice aH hs.length cH) (.slice aR rg.length cR)):=h;have HM:Hid (MG w k hs rg (.slice aH hs.length cH) (.slice aR rg.length cR)):=hm;clear h hm;go_enter Tryz.func44,Tryz.ntmps44;go_upto_region 1 with fail;obtain⟨u,hu,hb,hc⟩:∃y,w.alloc (.cells #[.slice aH hs.length cH,.slice aR rg.length cR] 26)=y/\Below w.heap.size w y/\y.heap[w.heap.size]?=some (.cells #[.slice aH hs.length cH,.slice aR rg.length cR] 26):=⟨_,rfl,(Below.refl _ _).alloc (Nat.le_refl _) _,heap_alloc_newB _ _⟩
 rw[hu];have a1:=hp_cell hc 0;have a2:=hp_cell hc 1;have az:=(Array.getElem?_eq_some_iff.1 hc).1;simp only[List.getElem?_toArray,List.getElem?_cons_zero,List.getElem?_cons_succ]at a1 a2;have HB:Hid (Below w.heap.size w u):=hb;have MU:Hid (MG u k hs rg (.slice aH hs.length cH) (.slice aR rg.length cR)):=(⟨HM.out.1.below hb,HM.out.2.below hb⟩:MG u k hs rg (.slice aH hs.length cH) (.slice aR rg.length cR))
 clear hu hb hc;go_wp2_with fail;refine(heldH_row hs k u w0 lH k0 (by omega) H.out.h MU.out.1).mono ?_;rintro e u1⟨rfl,hw⟩;rw[hw];obtain⟨k2,hk2⟩:∃y:Int,k+3*(hs.length:Int)=y:=⟨_,rfl⟩
 have HK2:Hid (k+3*(hs.length:Int)=k2):=hk2;rw[hk2];have k20:0<=k2:=by omega
 have k21:k2<=1125899906842624:=by omega
 have kn:¬k2<0:=by omega
 clear hw hk2;go_wp2_with fail;refine(heldV_row rg k2 u w0 lR k20 k21 H.out.r (by have:=MU.out.2;rw[HK2.out]at this;exact this)).mono ?_;rintro e u2⟨rfl,hw⟩;rw[hw];obtain⟨k3,hk3⟩:∃y:Int,k2+6*(rg.length:Int)=y:=⟨_,rfl⟩
 have HK3:Hid (k2+6*(rg.length:Int)=k3):=hk3;rw[hk3];have kn3:¬k3<0:=by omega
 clear hw hk3;go_wp2;go_ret;exact⟨congrArg (fun n:Int=>Ending.returned (.int .i64 n)) (by rw[HK2.out,HK3.out]),HB.out⟩
def tot:List (List SV)->Nat
 |[]=>0
 |b::l=>b.length+tot l
theorem tot_succ:∀(ps:List (List SV))(j:Nat),j<ps.length->tot (ps.take (j+1))=tot (ps.take j)+(ps.getD j []).length
 |[],j,h=>absurd h (Nat.not_lt_zero _)
 |b::l,0,_=>by show b.length+tot (l.take 0)=0+b.length;rw[List.take_zero];show b.length+0=_;omega
 |b::l,j+1,h=>by
  have ih:=tot_succ l j (by simpa using h);show b.length+tot (l.take (j+1))=b.length+tot (l.take j)+(l.getD j []).length;omega
theorem tot_le(m:Nat):∀(ps:List (List SV)),(∀b∈ps,b.length<=m)->tot ps<=ps.length*m
 |[],_=>by simp[tot]
 |b::l,h=>by
  have ih:=tot_le m l (fun b hb=>h b (by simp[hb]));have h0:=h b (by simp);show b.length+tot l<=(l.length+1)*m;rw[Nat.add_mul];omega
theorem tot_take_le:∀(ps:List (List SV))(j:Nat),tot (ps.take j)<=tot ps
 |[],j=>by simp
 |b::l,0=>by simp[tot]
 |b::l,j+1=>by
  have ih:=tot_take_le l j;show b.length+tot (l.take j)<=b.length+tot l;omega
structure PB(w:World)(B:Nat)(ps:List (List SV))(vP:Value)(bv:List Value):Prop where
 p:w.ownsRow B 68 1 vP ps.length bv
 l:bv.length=ps.length
 b:∀j,j<ps.length->w.ownsRow B 93 11 (bv.getD j undef) (ps.getD j []).length ((ps.getD j []).flatMap stL)
 d:∀i j q,i≠j->i<ps.length->j<ps.length->(bv.getD i undef).ownBlock=some q->(bv.getD j undef).ownBlock≠some q
 e:∀i q,i<ps.length->(bv.getD i undef).ownBlock=some q->vP.ownBlock≠some q
theorem PB.keep{w w':World}{B:Nat}{ps:List (List SV)}{vP:Value}{bv:List Value}(h:PB w B ps vP bv)(k1:∀q,vP.ownBlock=some q->w'.heap[q]?=w.heap[q]?)(k2:∀i q,i<ps.length->(bv.getD i undef).ownBlock=some q->w'.heap[q]?=w.heap[q]?):PB w' B ps vP bv:=
 ⟨row_belowZ h.p k1,h.l,fun j hj=>row_belowZ (h.b j hj) (fun q=>k2 j q hj),h.d,h.e⟩
theorem PB.below{w w':World}{B:Nat}{ps:List (List SV)}{vP:Value}{bv:List Value}(h:PB w B ps vP bv)(b:Below w.heap.size w w'):PB w' B ps vP bv:=
 h.keep (fun q hq=>b.block q (h.p.lt q hq).2) (fun i q hi hq=>b.block q ((h.b i hi).lt q hq).2)
theorem bv_get{bv:List Value}{n j:Nat}(l:bv.length=n)(hj:j<n):bv[j]?=some (bv.getD j undef):=by
 rw[List.getD_eq_getElem?_getD,List.getElem?_eq_getElem (by omega)];rfl
theorem PB.cell{w:World}{B g c:Nat}{ps:List (List SV)}{bv:List Value}(h:PB w B ps (.slice (some ⟨g,0,none⟩) ps.length c) bv){j:Nat}(hj:j<ps.length):w.cell? ⟨g,j,none⟩=some (bv.getD j undef):=by
 have:=h.p.cellAt j (by omega);rw[this];exact bv_get h.l hj
def MP(w:World)(k:Int)(ps:List (List SV))(bv:List Value):Prop:=∀j,j<ps.length->Mk 11 (markF (k+11*(tot (ps.take j):Int))) w (bv.getD j undef) (ps.getD j []).length
theorem MP.keep{w w':World}{k:Int}{ps:List (List SV)}{bv:List Value}{S:Nat->Prop}(h:MP w k ps bv)(f:Fr S w w')(hn:∀i q,i<ps.length->(bv.getD i undef).ownBlock=some q->¬S q):MP w' k ps bv:=
 fun j hj=>(h j hj).fr f (fun q hq=>hn j q hj hq)
theorem MP.below{w w':World}{k:Int}{ps:List (List SV)}{bv:List Value}(h:MP w k ps bv)(b:Below w.heap.size w w'):MP w' k ps bv:=fun j hj=>(h j hj).below b
theorem eqProc_rows{B B':Nat}(xs:List SV)(a a':Option Addr)(c c':Nat)(w:World)(hlen:xs.length<=1048576)(h1:w.ownsRow B 93 11 (.slice a xs.length c) xs.length (xs.flatMap stL))(h2:w.ownsRow B' 93 11 (.slice a' xs.length c') xs.length (xs.flatMap stL)):
 Calls Tryz.prog 72 #[.agg #[.slice a xs.length c],.agg #[.slice a' xs.length c']] w fun e w'=>e=.returned (.bool true)/\Below w.heap.size w w':=by
 have H1:Hid (w.ownsRow B 93 11 (.slice a xs.length c) xs.length (xs.flatMap stL)):=h1;have H2:Hid (w.ownsRow B' 93 11 (.slice a' xs.length c') xs.length (xs.flatMap stL)):=h2;clear h1 h2;go_enter Tryz.func72,Tryz.ntmps72;go_wp2_with fail;have b0:Below w.heap.size w ((w.alloc (.cells #[.slice a xs.length c] 68)).alloc (.cells #[.slice a' xs.length c'] 68)):=((Below.refl _ _).alloc (Nat.le_refl _) _).alloc (by simp) _;refine(eqS_rows xs _ hlen (row_belowB H1.out b0) (row_belowB H2.out b0)).mono ?_;rintro e w1⟨rfl,hb1⟩;go_wp2;go_ret;exact⟨rfl,b0.trans (hb1.mono b0.size)⟩
theorem eqProcS_nil(ao ao':Option Addr)(cap cap':Nat)(w:World):
 Calls Tryz.prog 41 #[.slice ao 0 cap,.slice ao' 0 cap'] w fun e w'=>e=.returned (.bool true)/\Below w.heap.size w w':=by
 go_enter Tryz.func41,Tryz.ntmps41;go_wp2;refine wp_loop_rounds 1 ?_;rw[rounds_succ];go_wp2;go_ret;exact⟨rfl,Below.refl _ _⟩
theorem eqProcS_at{B B':Nat}(ps:List (List SV))(g c g' c':Nat)(bv bv':List Value)(w:World)(hn:ps.length<=1048576)(hlen:∀j,j<ps.length->(ps.getD j []).length<=1048576)(h1:PB w B ps (.slice (some ⟨g,0,none⟩) ps.length c) bv)(h2:PB w B' ps (.slice (some ⟨g',0,none⟩) ps.length c') bv'):
 Calls Tryz.prog 41 #[.slice (some ⟨g,0,none⟩) ps.length c,.slice (some ⟨g',0,none⟩) ps.length c'] w fun e w'=>e=.returned (.bool true)/\Below w.heap.size w w':=by
 have H1:Hid (PB w B ps (.slice (some ⟨g,0,none⟩) ps.length c) bv):=h1;have H2:Hid (PB w B' ps (.slice (some ⟨g',0,none⟩) ps.length c') bv'):=h2;have HL:Hid (∀j,j<ps.length->(ps.getD j []).length<=1048576):=hlen;obtain⟨n,hn'⟩:∃n,ps.length=n:=⟨_,rfl⟩
 have HN:Hid (ps.length=n):=hn';rw[hn']at hn⊢;clear h1 h2 hlen hn';go_enter Tryz.func41,Tryz.ntmps41;go_wp2;go_loopw [5](fun i wr=>∃k:Nat,k<=n/\i=.int .i64 k/\Below w.heap.size w wr)(fun i _=>n-(intOf i).toNat)
 case atStart=>exact⟨0,Nat.zero_le _,rfl,Below.refl _ _⟩
 case round=>
  obtain⟨k,hk,rfl,hbr⟩:=hrel;by_cases hlt:k<n
  ·have hlt2:Hid (k<ps.length):=(by rw[HN.out];exact hlt)
   have K1:=H1.out.below hbr;have K2:=H2.out.below hbr;have HB1:Hid (PB wr B ps (.slice (some ⟨g,0,none⟩) ps.length c) bv):=K1;have HB2:Hid (PB wr B' ps (.slice (some ⟨g',0,none⟩) ps.length c') bv'):=K2;obtain⟨xs,hxs⟩:∃xs,ps.getD k []=xs:=⟨_,rfl⟩
   have r1:=K1.b k hlt2.out;have r2:=K2.b k hlt2.out;have q1:=K1.cell hlt2.out;have q2:=K2.cell hlt2.out;rw[hxs]at r1 r2;obtain⟨a1,c1,e1⟩:=row_sliceZ r1;obtain⟨a2,c2,e2⟩:=row_sliceZ r2;rw[e1]at r1 q1;rw[e2]at r2 q2;have R1:Hid (wr.ownsRow B 93 11 (.slice a1 xs.length c1) xs.length (xs.flatMap stL)):=r1;have R2:Hid (wr.ownsRow B' 93 11 (.slice a2 xs.length c2) xs.length (xs.flatMap stL)):=r2;have lx:Hid (xs.length<=1048576):=(by rw[<-hxs];exact HL.out k hlt2.out)
   have HBR:Hid (Below w.heap.size w wr):=hbr;have hlt':(k:Int)<(n:Int):=by omega
   have gz:g<wr.heap.size:=(HB1.out.p.lt g rfl).2;have gz':g'<wr.heap.size:=(HB2.out.p.lt g' rfl).2;clear K1 K2 HB1 HB2 r1 r2 e1 e2 hxs;go_wp2_with fail;go_region_with(go_at_call 72;refine(eqProc_rows xs _ _ _ _ _ lx.out (row_belowB R1.out (Below.refl _ _).drew) (row_belowB R2.out (Below.refl _ _).drew)).mono ?_;rintro e w'⟨rfl,hb2⟩);all_goals
    clear q1 q2;go_wp2;go_roundw
    case rel=>exact⟨k+1,by omega,by go_num,HBR.out.drew.trans (hb2.mono HBR.out.size)⟩
    case measure=>simp[intOf];omega
  ·go_wp2
   go_ret;exact⟨rfl,hbr⟩
theorem eqProcS_rows{B B':Nat}(ps:List (List SV))(v v':Value)(bv bv':List Value)(w:World)(hn:ps.length<=1048576)(hlen:∀j,j<ps.length->(ps.getD j []).length<=1048576)(h1:PB w B ps v bv)(h2:PB w B' ps v' bv'):
 Calls Tryz.prog 41 #[v,v'] w fun e w'=>e=.returned (.bool true)/\Below w.heap.size w w':=by
 by_cases h0:ps.length=0
 ·obtain⟨ao,c,rfl⟩:=row_zeroZ h1.p h0
  obtain⟨ao',c',rfl⟩:=row_zeroZ h2.p h0;exact eqProcS_nil ao ao' c c' w
 ·obtain⟨g,c,rfl,_⟩:=row_someZ h1.p (by omega)
  obtain⟨g',c',rfl,_⟩:=row_someZ h2.p (by omega);exact eqProcS_at ps g c g' c' bv bv' w hn hlen h1 h2
theorem markProcS_nil(ao:Option Addr)(cap:Nat)(k:Int)(w:World):
 Calls Tryz.prog 43 #[.slice ao 0 cap,.int .i64 k] w fun e w'=>e=.returned (.int .i64 k)/\w'=w:=by
 go_enter Tryz.func43,Tryz.ntmps43;go_wp2;refine wp_loop_rounds 1 ?_;rw[rounds_succ];go_wp2;go_ret;exact⟨rfl,rfl⟩
theorem heldProcS_nil(ao:Option Addr)(cap:Nat)(k:Int)(w:World):
 Calls Tryz.prog 45 #[.slice ao 0 cap,.int .i64 k] w fun e w'=>e=.returned (.int .i64 k)/\w'=w:=by
 go_enter Tryz.func45,Tryz.ntmps45;go_wp2;refine wp_loop_rounds 1 ?_;rw[rounds_succ];go_wp2;go_ret;exact⟨rfl,rfl⟩
theorem markProcS_at{B:Nat}(ps:List (List SV))(g c:Nat)(bv:List Value)(k:Int)(w:World)(hn:ps.length<=1048576)(hlen:∀j,j<ps.length->(ps.getD j []).length<=1048576)(ht:tot ps<=1099511627776)(k0:0<=k)(k1:k<=1099511627776)(h:PB w B ps (.slice (some ⟨g,0,none⟩) ps.length c) bv):
 Calls Tryz.prog 43 #[.slice (some ⟨g,0,none⟩) ps.length c,.int .i64 k] w fun e w'=>e=.returned (.int .i64 (k+11*(tot ps:Int)))/\Fr (fun q=>∃i,i<ps.length/\(bv.getD i undef).ownBlock=some q) w w'/\MP w' k ps bv:=by
 have H:Hid (PB w B ps (.slice (some ⟨g,0,none⟩) ps.length c) bv):=h;have HL:Hid (∀j,j<ps.length->(ps.getD j []).length<=1048576):=hlen;have HT:Hid (tot ps<=1099511627776):=ht;obtain⟨n,hn'⟩:∃n,ps.length=n:=⟨_,rfl⟩
 have HN:Hid (ps.length=n):=hn';rw[hn']at hn⊢;have gz:g<w.heap.size:=(h.p.lt g rfl).2;clear h hlen hn' ht;go_enter Tryz.func43,Tryz.ntmps43;go_wp2;go_loopw [1,5](fun kv iv wr=>∃(j:Nat),j<=n/\kv=.int .i64 (k+11*(tot (ps.take j):Int))/\iv=.int .i64 (j:Int)/\Fr (fun q=>∃i,i<n/\(bv.getD i undef).ownBlock=some q) w wr/\(∀i,i<j->Mk 11 (markF (k+11*(tot (ps.take i):Int))) wr (bv.getD i undef) (ps.getD i []).length)/\wr.heap[g]?=w.heap[g]?/\(∀i q,j<=i->i<n->(bv.getD i undef).ownBlock=some q->wr.heap[q]?=w.heap[q]?))(fun _ iv _=>n-(intOf iv).toNat)
 case atStart=>exact⟨0,Nat.zero_le _,congrArg (Value.int .i64) (by rw[List.take_zero];show k=k+11*((0:Nat):Int);omega),rfl,Fr.refl _ _,fun i hi=>absurd hi (Nat.not_lt_zero _),rfl,fun _ _ _ _ _=>rfl⟩
 case round=>
  obtain⟨j,hj,rfl,rfl,hf,hm,hg,hk⟩:=hrel;have F2:Hid (Fr (fun q=>∃i,i<n/\(bv.getD i undef).ownBlock=some q) w wr):=hf;have M2:Hid (∀i,i<j->Mk 11 (markF (k+11*(tot (ps.take i):Int))) wr (bv.getD i undef) (ps.getD i []).length):=hm;have G2:Hid (wr.heap[g]?=w.heap[g]?):=hg;have K2:Hid (∀i q,j<=i->i<n->(bv.getD i undef).ownBlock=some q->wr.heap[q]?=w.heap[q]?):=hk;have hz:=hf.size;clear hf hm hg hk;obtain⟨r,hr⟩:∃r:Int,k+11*(tot (ps.take j):Int)=r:=⟨_,rfl⟩
  have HR:Hid (k+11*(tot (ps.take j):Int)=r):=hr;have r01:0<=r/\r<=1125899906842624-100000000:=by have:=tot_take_le ps j;have:=HT.out;omega
  obtain⟨r0,r1⟩:=r01;rw[hr];clear hr;by_cases hlt:j<n
  ·have hlt2:Hid (j<ps.length):=(by rw[HN.out];exact hlt)
   obtain⟨xs,hxs⟩:∃xs,ps.getD j []=xs:=⟨_,rfl⟩
   have HX:Hid (ps.getD j []=xs):=hxs;have q1:wr.cell? ⟨g,j,none⟩=some (bv.getD j undef):=(World.cell?_of_block (a:=⟨g,j,none⟩) G2.out).trans (H.out.cell hlt2.out);have r1':wr.ownsRow B 93 11 (bv.getD j undef) (ps.getD j []).length ((ps.getD j []).flatMap stL):=row_belowZ (H.out.b j hlt2.out) (fun q hq=>K2.out j q (Nat.le_refl _) hlt hq);rw[hxs]at r1';obtain⟨a1,c1,e1⟩:=row_sliceZ r1';have HE:Hid (bv.getD j undef=.slice a1 xs.length c1):=e1;rw[e1]at r1' q1;have R1:Hid (wr.ownsRow B 93 11 (.slice a1 xs.length c1) xs.length (xs.flatMap stL)):=r1';have lx:Hid (xs.length<=1048576):=(by rw[<-hxs];exact HL.out j hlt2.out)
   have hlt':(j:Int)<(n:Int):=by omega
   clear r1' e1 hxs;go_wp2_with fail;refine(markS_row xs r _ lx.out r0 (by omega) R1.out).mono ?_;rintro e w2⟨rfl,hf2,hm2⟩;have F3:Hid (Fr (fun q=>∃i,i<n/\(bv.getD i undef).ownBlock=some q) w w2):=F2.out.trans (hf2.mono (fun q hq=>⟨j,hlt,by rw[HE.out];exact hq⟩));have M3:Hid (∀i,i<j+1->Mk 11 (markF (k+11*(tot (ps.take i):Int))) w2 (bv.getD i undef) (ps.getD i []).length):=fun i hi=>by
    by_cases hij:i=j
    ·subst hij
     rw[HE.out,HX.out,HR.out];exact hm2
    ·exact(M2.out i (by omega)).fr hf2 (fun q h1 h2=>H.out.d i j q hij (by have:=HN.out;omega) hlt2.out h1 (by rw[HE.out];exact h2))
   have G3:Hid (w2.heap[g]?=w.heap[g]?):=(hf2.block g (by omega) (fun e=>H.out.e j g hlt2.out (by rw[HE.out];exact e) rfl)).trans G2.out;have K3:Hid (∀i q,j+1<=i->i<n->(bv.getD i undef).ownBlock=some q->w2.heap[q]?=w.heap[q]?):=fun i q h1 h2 h3=>(hf2.block q (by have:=((H.out.b i (by rw[HN.out];exact h2)).lt q h3).2;omega) (fun e=>H.out.d i j q (by omega) (by rw[HN.out];exact h2) hlt2.out h3 (by rw[HE.out];exact e))).trans (K2.out i q (by omega) h2 h3)
   have ee:r+11*(xs.length:Int)=k+11*(tot (ps.take (j+1)):Int):=by have h1:=tot_succ ps j hlt2.out;have h2:=HR.out;rw[HX.out]at h1;omega
   obtain⟨r2,hr2⟩:∃y:Int,r+11*(xs.length:Int)=y:=⟨_,rfl⟩
   rw[hr2];have q0:0<=r2:=by omega
   have q2:r2<=1125899906842624:=by have:=lx.out;omega
   have HR2:Hid (r2=k+11*(tot (ps.take (j+1)):Int)):=hr2.symm.trans ee;clear hf2 hm2 hr2 q1 ee;go_wp2;go_roundw
   case rel=>exact⟨j+1,by omega,congrArg (Value.int .i64) HR2.out,by go_num,F3.out,M3.out,G3.out,K3.out⟩
   case measure=>simp[intOf];omega
  ·have hlt':¬(j:Int)<(n:Int):=by omega
   go_wp2;go_ret;have hje:j=ps.length:=by have:=HN.out;omega
   refine⟨congrArg (fun n:Int=>Ending.returned (.int .i64 n)) ?_,F2.out,fun i hi=>M2.out i (by omega)⟩;rw[<-HR.out,hje,List.take_length]
theorem markProcS_rows{B:Nat}(ps:List (List SV))(v:Value)(bv:List Value)(k:Int)(w:World)(hn:ps.length<=1048576)(hlen:∀j,j<ps.length->(ps.getD j []).length<=1048576)(ht:tot ps<=1099511627776)(k0:0<=k)(k1:k<=1099511627776)(h:PB w B ps v bv):
 Calls Tryz.prog 43 #[v,.int .i64 k] w fun e w'=>e=.returned (.int .i64 (k+11*(tot ps:Int)))/\Fr (fun q=>∃i,i<ps.length/\(bv.getD i undef).ownBlock=some q) w w'/\MP w' k ps bv:=by
 by_cases h0:ps.length=0
 ·obtain⟨ao,c,rfl⟩:=row_zeroZ h.p h0
  refine(markProcS_nil ao c k w).mono ?_;rintro e w'⟨rfl,rfl⟩;have hp:=List.length_eq_zero_iff.1 h0;subst hp;exact⟨congrArg (fun n:Int=>Ending.returned (.int .i64 n)) (by simp[tot]),Fr.refl _ _,fun j hj=>absurd hj (Nat.not_lt_zero _)⟩
 ·obtain⟨g,c,rfl,_⟩:=row_someZ h.p (by omega)
  exact markProcS_at ps g c bv k w hn hlen ht k0 k1 h
theorem heldProcS_at{B:Nat}(ps:List (List SV))(g c:Nat)(bv:List Value)(k:Int)(w w0:World)(hn:ps.length<=1048576)(hlen:∀j,j<ps.length->(ps.getD j []).length<=1048576)(ht:tot ps<=1099511627776)(k0:0<=k)(k1:k<=1099511627776)(h:PB w0 B ps (.slice (some ⟨g,0,none⟩) ps.length c) bv)(hr:w.ownsRow B 68 1 (.slice (some ⟨g,0,none⟩) ps.length c) ps.length bv)(hm:MP w k ps bv):
 Calls Tryz.prog 45 #[.slice (some ⟨g,0,none⟩) ps.length c,.int .i64 k] w fun e w'=>e=.returned (.int .i64 (k+11*(tot ps:Int)))/\w'=w:=by
 have H:Hid (PB w0 B ps (.slice (some ⟨g,0,none⟩) ps.length c) bv):=h;have HL:Hid (∀j,j<ps.length->(ps.getD j []).length<=1048576):=hlen;have HT:Hid (tot ps<=1099511627776):=ht;have HM:Hid (MP w k ps bv):=hm;have HW:Hid (w.ownsRow B 68 1 (.slice (some ⟨g,0,none⟩) ps.length c) ps.length bv):=hr;obtain⟨n,hn'⟩:∃n,ps.length=n:=⟨_,rfl⟩
 have HN:Hid (ps.length=n):=hn';rw[hn']at hn⊢;have gz:g<w.heap.size:=(hr.lt g rfl).2;clear h hlen hn' ht hm hr;go_enter Tryz.func45,Tryz.ntmps45;go_wp2;go_loopw [1,5](fun kv iv wr=>∃(j:Nat),j<=n/\kv=.int .i64 (k+11*(tot (ps.take j):Int))/\iv=.int .i64 (j:Int)/\wr=w)(fun _ iv _=>n-(intOf iv).toNat)
 case atStart=>exact⟨0,Nat.zero_le _,congrArg (Value.int .i64) (by rw[List.take_zero];show k=k+11*((0:Nat):Int);omega),rfl,rfl⟩
 case round=>
  obtain⟨j,hj,rfl,rfl,rfl⟩:=hrel;obtain⟨r,hr⟩:∃r:Int,k+11*(tot (ps.take j):Int)=r:=⟨_,rfl⟩
  have HR:Hid (k+11*(tot (ps.take j):Int)=r):=hr;have r01:0<=r/\r<=1125899906842624-100000000:=by have:=tot_take_le ps j;have:=HT.out;omega
  obtain⟨r0,r1⟩:=r01;rw[hr];clear hr;by_cases hlt:j<n
  ·have hlt2:Hid (j<ps.length):=(by rw[HN.out];exact hlt)
   obtain⟨xs,hxs⟩:∃xs,ps.getD j []=xs:=⟨_,rfl⟩
   have HX:Hid (ps.getD j []=xs):=hxs;have q1:wr.cell? ⟨g,j,none⟩=some (bv.getD j undef):=by
    rw[HW.out.cellAt j (by have:=hlt2.out;omega)];exact bv_get H.out.l hlt2.out
   have m1:=HM.out j hlt2.out;have r1':=H.out.b j hlt2.out;rw[hxs]at r1' m1;rw[HR.out]at m1;obtain⟨a1,c1,e1⟩:=row_sliceZ r1';rw[e1]at r1' q1 m1;have R1:Hid (w0.ownsRow B 93 11 (.slice a1 xs.length c1) xs.length (xs.flatMap stL)):=r1';have M1:Hid (Mk 11 (markF r) wr (.slice a1 xs.length c1) xs.length):=m1;have lx:Hid (xs.length<=1048576):=(by rw[<-hxs];exact HL.out j hlt2.out)
   have hlt':(j:Int)<(n:Int):=by omega
   clear r1' e1 hxs m1;go_wp2_with fail;refine(heldS_row xs r wr w0 lx.out r0 (by omega) R1.out M1.out).mono ?_;rintro e w2⟨rfl,hw2⟩;rw[hw2];have ee:r+11*(xs.length:Int)=k+11*(tot (ps.take (j+1)):Int):=by have h1:=tot_succ ps j hlt2.out;have h2:=HR.out;rw[HX.out]at h1;omega
   obtain⟨r2,hr2⟩:∃y:Int,r+11*(xs.length:Int)=y:=⟨_,rfl⟩
   rw[hr2];have q0:¬r2<0:=by omega
   have q2:r2<=1125899906842624:=by have:=lx.out;omega
   have HR2:Hid (r2=k+11*(tot (ps.take (j+1)):Int)):=hr2.symm.trans ee;clear hw2 hr2 q1 ee;go_wp2;go_roundw
   case rel=>exact⟨j+1,by omega,congrArg (Value.int .i64) HR2.out,by go_num,by first|rfl|trivial⟩
   case measure=>simp[intOf];omega
  ·have hlt':¬(j:Int)<(n:Int):=by omega
   go_wp2;go_ret;have hje:j=ps.length:=by have:=HN.out;omega
   refine⟨congrArg (fun n:Int=>Ending.returned (.int .i64 n)) ?_,rfl⟩;rw[<-HR.out,hje,List.take_length]
theorem heldProcS_rows{B:Nat}(ps:List (List SV))(v:Value)(bv:List Value)(k:Int)(w w0:World)(hn:ps.length<=1048576)(hlen:∀j,j<ps.length->(ps.getD j []).length<=1048576)(ht:tot ps<=1099511627776)(k0:0<=k)(k1:k<=1099511627776)(h:PB w0 B ps v bv)(hr:w.ownsRow B 68 1 v ps.length bv)(hm:MP w k ps bv):
 Calls Tryz.prog 45 #[v,.int .i64 k] w fun e w'=>e=.returned (.int .i64 (k+11*(tot ps:Int)))/\w'=w:=by
 by_cases h0:ps.length=0
 ·obtain⟨ao,c,rfl⟩:=row_zeroZ h.p h0
  refine(heldProcS_nil ao c k w).mono ?_;rintro e w'⟨rfl,rfl⟩;have hp:=List.length_eq_zero_iff.1 h0;subst hp;exact⟨congrArg (fun n:Int=>Ending.returned (.int .i64 n)) (by simp[tot]),rfl⟩
 ·obtain⟨g,c,rfl,_⟩:=row_someZ h.p (by omega)
  exact heldProcS_at ps g c bv k w w0 hn hlen ht k0 k1 h hr hm
structure SR(w:World)(B:Nat)(hs:List HS)(rg:List VV)(ps:List (List SV))(vH vR vP:Value)(bv:List Value):Prop where
 g:SG w B hs rg vH vR
 p:PB w B ps vP bv
 x:∀q,vH.ownBlock=some q∨vR.ownBlock=some q->vP.ownBlock≠some q/\∀i,i<ps.length->(bv.getD i undef).ownBlock≠some q
theorem SR.below{w w':World}{B:Nat}{hs:List HS}{rg:List VV}{ps:List (List SV)}{vH vR vP:Value}{bv:List Value}(h:SR w B hs rg ps vH vR vP bv)(b:Below w.heap.size w w'):SR w' B hs rg ps vH vR vP bv:=⟨h.g.below b,h.p.below b,h.x⟩
def SO(n:Nat)(vH vR:Value)(bv:List Value)(q:Nat):Prop:=vH.ownBlock=some q∨vR.ownBlock=some q∨∃i,i<n/\(bv.getD i undef).ownBlock=some q
def SA(n:Nat)(vH vR vP:Value)(bv:List Value)(q:Nat):Prop:=vP.ownBlock=some q∨SO n vH vR bv q
theorem SR.lt{w:World}{B:Nat}{hs:List HS}{rg:List VV}{ps:List (List SV)}{vH vR vP:Value}{bv:List Value}(h:SR w B hs rg ps vH vR vP bv){q:Nat}(hq:SA ps.length vH vR vP bv q):B<=q/\q<w.heap.size:=by
 rcases hq with hq|hq|hq|⟨i,hi,hq⟩
 ·exact h.p.p.lt q hq
 ·exact h.g.h.lt q hq
 ·exact h.g.r.lt q hq
 ·exact(h.p.b i hi).lt q hq
theorem SR.fr{S:Nat->Prop}{w w':World}{B:Nat}{hs:List HS}{rg:List VV}{ps:List (List SV)}{vH vR vP:Value}{bv:List Value}(h:SR w B hs rg ps vH vR vP bv)(f:Fr S w w')(hn:∀q,SA ps.length vH vR vP bv q->¬S q):SR w' B hs rg ps vH vR vP bv:=
 ⟨⟨row_frZ h.g.h f (fun q hq=>hn q (.inr (.inl hq))),row_frZ h.g.r f (fun q hq=>hn q (.inr (.inr (.inl hq)))),h.g.d⟩,
  h.p.keep (fun q hq=>f.block q (h.p.p.lt q hq).2 (hn q (.inl hq))) (fun i q hi hq=>f.block q ((h.p.b i hi).lt q hq).2 (hn q (.inr (.inr (.inr ⟨i,hi,hq⟩))))),h.x⟩
theorem bod_at{bv:List Value}{ps:List (List SV)}(hl:bv.length=ps.length){i:Nat}(hi:i<ps.length):(bodR bv ps)[i]?=some ⟨93,11,bv.getD i undef,(ps.getD i []).length,(ps.getD i []).flatMap stL⟩:=by
 unfold bodR;have e:ps[i]?=some (ps.getD i []):=by rw[List.getD_eq_getElem?_getD,List.getElem?_eq_getElem hi];rfl
 rw[List.getElem?_zipWith,bv_get hl hi,e];rfl
theorem sr_of{w:World}{B:Nat}{hs:List HS}{rg:List VV}{ps:List (List SV)}{vH vR vP:Value}{bv:List Value}(h:Rws w B (srcR [] hs rg ps vH vR vP bv))(hl:bv.length=ps.length):SR w B hs rg ps vH vR vP bv:=by
 have e0:(srcR [] hs rg ps vH vR vP bv)[0]?=some ⟨88,3,vH,hs.length,hs.flatMap hsL⟩:=rfl;have e1:(srcR [] hs rg ps vH vR vP bv)[1]?=some ⟨47,6,vR,rg.length,rg.flatMap vlL⟩:=rfl;have e2:(srcR [] hs rg ps vH vR vP bv)[2]?=some ⟨68,1,vP,bv.length,bv⟩:=rfl;have e3:∀i,i<ps.length->(srcR [] hs rg ps vH vR vP bv)[i+3]?=some ⟨93,11,bv.getD i undef,(ps.getD i []).length,(ps.getD i []).flatMap stL⟩:=fun i hi=>bod_at hl hi
 have o2:w.ownsRow B 68 1 vP bv.length bv:=h.own 2 _ e2;rw[hl]at o2;refine⟨⟨h.own 0 _ e0,h.own 1 _ e1,fun q h1=>h.dis 0 1 _ _ (by decide) e0 e1 q h1⟩,⟨o2,hl,fun j hj=>h.own (j+3) _ (e3 j hj),fun i j q hne hi hj h1=>h.dis (i+3) (j+3) _ _ (by omega) (e3 i hi) (e3 j hj) q h1,fun i q hi h1=>h.dis (i+3) 2 _ _ (by omega) (e3 i hi) e2 q h1⟩,fun q hq=>?_⟩;rcases hq with hq|hq
 ·exact⟨h.dis 0 2 _ _ (by decide) e0 e2 q hq,fun i hi=>h.dis 0 (i+3) _ _ (by omega) e0 (e3 i hi) q hq⟩
 ·exact⟨h.dis 1 2 _ _ (by decide) e1 e2 q hq,fun i hi=>h.dis 1 (i+3) _ _ (by omega) e1 (e3 i hi) q hq⟩
theorem eqSource_rows{B B':Nat}(d:Int)(hs:List HS)(rg:List VV)(ps:List (List SV))(aH aR aP:Option Addr)(cH cR cP:Nat)(bv:List Value)(aH' aR' aP':Option Addr)(cH' cR' cP':Nat)(bv':List Value)(w:World)(lH:hs.length<=8)(lR:rg.length<=8)(ln:ps.length<=1048576)(lb:∀j,j<ps.length->(ps.getD j []).length<=1048576)(h1:SR w B hs rg ps (.slice aH hs.length cH) (.slice aR rg.length cR) (.slice aP ps.length cP) bv)(h2:SR w B' hs rg ps (.slice aH' hs.length cH') (.slice aR' rg.length cR') (.slice aP' ps.length cP') bv'):
 Calls Tryz.prog 18 #[.agg #[.int .i64 d,.slice aH hs.length cH,.slice aR rg.length cR,.slice aP ps.length cP],.agg #[.int .i64 d,.slice aH' hs.length cH',.slice aR' rg.length cR',.slice aP' ps.length cP']] w fun e w'=>e=.returned (.bool true)/\Below w.heap.size w w':=by
 have H1:Hid (SR w B hs rg ps (.slice aH hs.length cH) (.slice aR rg.length cR) (.slice aP ps.length cP) bv):=h1;have H2:Hid (SR w B' hs rg ps (.slice aH' hs.length cH') (.slice aR' rg.length cR') (.slice aP' ps.length cP') bv'):=h2;have LB:Hid (∀j,j<ps.length->(ps.getD j []).length<=1048576):=lb;clear h1 h2 lb;go_enter Tryz.func18,Tryz.ntmps18;go_upto_region 1 with fail;obtain⟨u,hu,hbu,hca,hcb⟩:∃x,(w.alloc (.cells #[.int .i64 d,.slice aH hs.length cH,.slice aR rg.length cR,.slice aP ps.length cP] 29)).alloc (.cells #[.int .i64 d,.slice aH' hs.length cH',.slice aR' rg.length cR',.slice aP' ps.length cP'] 29)=x/\Below w.heap.size w x/\Cl x w.heap.size [.int .i64 d,.slice aH hs.length cH,.slice aR rg.length cR,.slice aP ps.length cP]/\Cl x (w.heap.size+1) [.int .i64 d,.slice aH' hs.length cH',.slice aR' rg.length cR',.slice aP' ps.length cP']:=
  ⟨_,rfl,((Below.refl _ _).alloc (Nat.le_refl _) _).alloc (by simp) _,Cl.new.below ((Below.refl _ _).alloc (Nat.le_refl _) _),by
    have h:=Cl.new (w:=w.alloc (.cells #[.int .i64 d,.slice aH hs.length cH,.slice aR rg.length cR,.slice aP ps.length cP] 29)) (vs:=#[.int .i64 d,.slice aH' hs.length cH',.slice aR' rg.length cR',.slice aP' ps.length cP']) (t:=29);simpa using h⟩
 rw[hu];obtain⟨xa,hxa⟩:∃x,w.heap.size=x:=⟨_,rfl⟩
 rw[hxa]at hca hcb⊢;have CA:Hid (Cl u xa [.int .i64 d,.slice aH hs.length cH,.slice aR rg.length cR,.slice aP ps.length cP]):=hca;have CB:Hid (Cl u (xa+1) [.int .i64 d,.slice aH' hs.length cH',.slice aR' rg.length cR',.slice aP' ps.length cP']):=hcb;have BU:Hid (Below w.heap.size w u):=hbu;have a0:u.cell? ⟨xa,0,none⟩=some (.int .i64 d):=hca.2 0 (by simp);have b0:u.cell? ⟨xa+1,0,none⟩=some (.int .i64 d):=hcb.2 0 (by simp);have a1:u.cell? ⟨xa,1,none⟩=some (.slice aH hs.length cH):=hca.2 1 (by simp);have b1:u.cell? ⟨xa+1,1,none⟩=some (.slice aH' hs.length cH'):=hcb.2 1 (by simp);have a2:u.cell? ⟨xa,2,none⟩=some (.slice aR rg.length cR):=hca.2 2 (by simp);have b2:u.cell? ⟨xa+1,2,none⟩=some (.slice aR' rg.length cR'):=hcb.2 2 (by simp);clear hu hbu hca hcb hxa;go_wp2_with fail;refine(eqSig_rows hs rg aH aR aH' aR' cH cR cH' cR' u (by omega) (by omega) (H1.out.below BU.out).g (H2.out.below BU.out).g).mono ?_;rintro e u2⟨rfl,hb2⟩;have B2:Hid (Below w.heap.size w u2):=BU.out.trans (hb2.mono BU.out.size);have a3:u2.cell? ⟨xa,3,none⟩=some (.slice aP ps.length cP):=(CA.out.below hb2).2 3 (by simp);have b3:u2.cell? ⟨xa+1,3,none⟩=some (.slice aP' ps.length cP'):=(CB.out.below hb2).2 3 (by simp);clear hb2 a0 a1 a2 b0 b1 b2;go_wp2_with fail;refine(eqProcS_rows ps _ _ bv bv' u2 ln LB.out (H1.out.below B2.out).p (H2.out.below B2.out).p).mono ?_;rintro e u3⟨rfl,hb3⟩;have B3:Hid (Below w.heap.size w u3):=B2.out.trans (hb3.mono B2.out.size);clear hb3 a3 b3;go_wp2;go_ret;exact⟨rfl,B3.out⟩
theorem eqSourceRes_rows{B B':Nat}(ln d:Int)(hs:List HS)(rg:List VV)(ps:List (List SV))(aH aR aP:Option Addr)(cH cR cP:Nat)(bv:List Value)(aH' aR' aP':Option Addr)(cH' cR' cP':Nat)(bv':List Value)(w:World)(lH:hs.length<=8)(lR:rg.length<=8)(lp:ps.length<=1048576)(lb:∀j,j<ps.length->(ps.getD j []).length<=1048576)(h1:SR w B hs rg ps (.slice aH hs.length cH) (.slice aR rg.length cR) (.slice aP ps.length cP) bv)(h2:SR w B' hs rg ps (.slice aH' hs.length cH') (.slice aR' rg.length cR') (.slice aP' ps.length cP') bv'):
 Calls Tryz.prog 7 #[.agg #[.int .i64 ln,.int .i64 d,.slice aH hs.length cH,.slice aR rg.length cR,.slice aP ps.length cP],.agg #[.int .i64 ln,.int .i64 d,.slice aH' hs.length cH',.slice aR' rg.length cR',.slice aP' ps.length cP']] w fun e w'=>e=.returned (.bool true)/\Below w.heap.size w w':=by
 have H1:Hid (SR w B hs rg ps (.slice aH hs.length cH) (.slice aR rg.length cR) (.slice aP ps.length cP) bv):=h1;have H2:Hid (SR w B' hs rg ps (.slice aH' hs.length cH') (.slice aR' rg.length cR') (.slice aP' ps.length cP') bv'):=h2;have LB:Hid (∀j,j<ps.length->(ps.getD j []).length<=1048576):=lb;clear h1 h2 lb;go_enter Tryz.func7,Tryz.ntmps7;go_upto_region 1 with fail;obtain⟨u,hu,hbu,hca,hcb⟩:∃x,(w.alloc (.cells #[.int .i64 ln,.int .i64 d,.slice aH hs.length cH,.slice aR rg.length cR,.slice aP ps.length cP] 31)).alloc (.cells #[.int .i64 ln,.int .i64 d,.slice aH' hs.length cH',.slice aR' rg.length cR',.slice aP' ps.length cP'] 31)=x/\Below w.heap.size w x/\Cl x w.heap.size [.int .i64 ln,.int .i64 d,.slice aH hs.length cH,.slice aR rg.length cR,.slice aP ps.length cP]/\Cl x (w.heap.size+1) [.int .i64 ln,.int .i64 d,.slice aH' hs.length cH',.slice aR' rg.length cR',.slice aP' ps.length cP']:=
  ⟨_,rfl,((Below.refl _ _).alloc (Nat.le_refl _) _).alloc (by simp) _,Cl.new.below ((Below.refl _ _).alloc (Nat.le_refl _) _),by
    have h:=Cl.new (w:=w.alloc (.cells #[.int .i64 ln,.int .i64 d,.slice aH hs.length cH,.slice aR rg.length cR,.slice aP ps.length cP] 31)) (vs:=#[.int .i64 ln,.int .i64 d,.slice aH' hs.length cH',.slice aR' rg.length cR',.slice aP' ps.length cP']) (t:=31);simpa using h⟩
 rw[hu];obtain⟨xa,hxa⟩:∃x,w.heap.size=x:=⟨_,rfl⟩
 rw[hxa]at hca hcb⊢;have BU:Hid (Below w.heap.size w u):=hbu;have a0:u.cell? ⟨xa,0,none⟩=some (.int .i64 ln):=hca.2 0 (by simp);have b0:u.cell? ⟨xa+1,0,none⟩=some (.int .i64 ln):=hcb.2 0 (by simp);have a1:u.cell? ⟨xa,1,none⟩=some (.int .i64 d):=hca.2 1 (by simp);have b1:u.cell? ⟨xa+1,1,none⟩=some (.int .i64 d):=hcb.2 1 (by simp);have a2:u.cell? ⟨xa,2,none⟩=some (.slice aH hs.length cH):=hca.2 2 (by simp);have b2:u.cell? ⟨xa+1,2,none⟩=some (.slice aH' hs.length cH'):=hcb.2 2 (by simp);have a3:u.cell? ⟨xa,3,none⟩=some (.slice aR rg.length cR):=hca.2 3 (by simp);have b3:u.cell? ⟨xa+1,3,none⟩=some (.slice aR' rg.length cR'):=hcb.2 3 (by simp);have a4:u.cell? ⟨xa,4,none⟩=some (.slice aP ps.length cP):=hca.2 4 (by simp);have b4:u.cell? ⟨xa+1,4,none⟩=some (.slice aP' ps.length cP'):=hcb.2 4 (by simp);clear hu hbu hca hcb hxa;go_wp2_with fail;refine(eqSource_rows d hs rg ps aH aR aP cH cR cP bv aH' aR' aP' cH' cR' cP' bv' u lH lR lp LB.out (H1.out.below BU.out) (H2.out.below BU.out)).mono ?_;rintro e u3⟨rfl,hb3⟩;have B3:Hid (Below w.heap.size w u3):=BU.out.trans (hb3.mono BU.out.size);clear hb3 a0 a1 a2 a3 a4 b0 b1 b2 b3 b4;go_wp2;go_ret;exact⟨rfl,B3.out⟩
structure MSr(w:World)(k:Int)(hs:List HS)(rg:List VV)(ps:List (List SV))(vH vR:Value)(bv:List Value):Prop where
 g:MG w k hs rg vH vR
 p:MP w (k+3*(hs.length:Int)+6*(rg.length:Int)) ps bv
theorem MSr.below{w w':World}{k:Int}{hs:List HS}{rg:List VV}{ps:List (List SV)}{vH vR:Value}{bv:List Value}(h:MSr w k hs rg ps vH vR bv)(b:Below w.heap.size w w'):MSr w' k hs rg ps vH vR bv:=⟨⟨h.g.1.below b,h.g.2.below b⟩,h.p.below b⟩
theorem markSource_rows{B:Nat}(d:Int)(hs:List HS)(rg:List VV)(ps:List (List SV))(aH aR aP:Option Addr)(cH cR cP:Nat)(bv:List Value)(k:Int)(w:World)(lH:hs.length<=8)(lR:rg.length<=8)(ln:ps.length<=1048576)(lb:∀j,j<ps.length->(ps.getD j []).length<=1048576)(ht:tot ps<=1099511627776)(k0:0<=k)(k1:k<=1048576)(h:SR w B hs rg ps (.slice aH hs.length cH) (.slice aR rg.length cR) (.slice aP ps.length cP) bv):
 Calls Tryz.prog 19 #[.agg #[.int .i64 d,.slice aH hs.length cH,.slice aR rg.length cR,.slice aP ps.length cP],.int .i64 k] w fun e w'=>e=.returned (.int .i64 (k+3*(hs.length:Int)+6*(rg.length:Int)+11*(tot ps:Int)))/\Fr (SO ps.length (.slice aH hs.length cH) (.slice aR rg.length cR) bv) w w'/\MSr w' k hs rg ps (.slice aH hs.length cH) (.slice aR rg.length cR) bv/\w'.ownsRow B 68 1 (.slice aP ps.length cP) ps.length bv:=by
 have H:Hid (SR w B hs rg ps (.slice aH hs.length cH) (.slice aR rg.length cR) (.slice aP ps.length cP) bv):=h;have LB:Hid (∀j,j<ps.length->(ps.getD j []).length<=1048576):=lb;have HT:Hid (tot ps<=1099511627776):=ht;clear h lb ht;go_enter Tryz.func19,Tryz.ntmps19;go_upto_region 1 with fail;obtain⟨u,hu,hbu,hc⟩:∃y,w.alloc (.cells #[.int .i64 d,.slice aH hs.length cH,.slice aR rg.length cR,.slice aP ps.length cP] 29)=y/\Below w.heap.size w y/\y.heap[w.heap.size]?=some (.cells #[.int .i64 d,.slice aH hs.length cH,.slice aR rg.length cR,.slice aP ps.length cP] 29):=⟨_,rfl,(Below.refl _ _).alloc (Nat.le_refl _) _,heap_alloc_newB _ _⟩
 rw[hu];obtain⟨x,hx⟩:∃y,w.heap.size=y:=⟨_,rfl⟩
 have HX:Hid (w.heap.size=x):=hx;rw[hx]at hc⊢;have BU:Hid (Below w.heap.size w u):=hbu;have HU:Hid (SR u B hs rg ps (.slice aH hs.length cH) (.slice aR rg.length cR) (.slice aP ps.length cP) bv):=H.out.below hbu;have C0:Hid (u.heap[x]?=some (.cells #[.int .i64 d,.slice aH hs.length cH,.slice aR rg.length cR,.slice aP ps.length cP] 29)):=hc;have a1:=hp_cell hc 1;have a2:=hp_cell hc 2;have az:=(Array.getElem?_eq_some_iff.1 hc).1;simp only[List.getElem?_toArray,List.getElem?_cons_zero,List.getElem?_cons_succ]at a1 a2;clear hu hbu hc hx;go_wp2_with fail;refine(markSig_rows hs rg aH aR cH cR k u (by omega) (by omega) k0 k1 HU.out.g).mono ?_;rintro e u2⟨rfl,hf2,hm2⟩;have c2:u2.heap[x]?=some (.cells #[.int .i64 d,.slice aH hs.length cH,.slice aR rg.length cR,.slice aP ps.length cP] 29):=(hf2.block x az (fun e=>by
  have hz:=HX.out;rcases e with e|e
  ·have:=(H.out.g.h.lt x e).2;omega
  ·have:=(H.out.g.r.lt x e).2;omega)).trans C0.out
 have a3:=hp_cell c2 3;have az2:=(Array.getElem?_eq_some_iff.1 c2).1;simp only[List.getElem?_toArray,List.getElem?_cons_zero,List.getElem?_cons_succ]at a3;have F2:Hid (Fr (SO ps.length (.slice aH hs.length cH) (.slice aR rg.length cR) bv) w u2):=(Fr.of_below BU.out).trans (hf2.mono (fun q hq=>hq.elim (fun e=>.inl e) (fun e=>.inr (.inl e))));have P2:Hid (PB u2 B ps (.slice aP ps.length cP) bv):=HU.out.p.keep (fun q hq=>hf2.block q (HU.out.p.p.lt q hq).2 (fun e=>(HU.out.x q e).1 hq)) (fun i q hi hq=>hf2.block q ((HU.out.p.b i hi).lt q hq).2 (fun e=>(HU.out.x q e).2 i hi hq));have M2:Hid (MG u2 k hs rg (.slice aH hs.length cH) (.slice aR rg.length cR)):=hm2;obtain⟨k2,hk2⟩:∃y:Int,k+3*(hs.length:Int)+6*(rg.length:Int)=y:=⟨_,rfl⟩
 have HK2:Hid (k+3*(hs.length:Int)+6*(rg.length:Int)=k2):=hk2;rw[hk2];have k20:0<=k2:=by omega
 have k21:k2<=1099511627776:=by omega
 clear hf2 hm2 a1 a2 hk2 c2;go_wp2_with fail;refine(markProcS_rows ps _ bv k2 u2 ln LB.out HT.out k20 k21 P2.out).mono ?_;rintro e u3⟨rfl,hf3,hm3⟩;have F3:Hid (Fr (SO ps.length (.slice aH hs.length cH) (.slice aR rg.length cR) bv) w u3):=F2.out.trans (hf3.mono (fun q hq=>.inr (.inr hq)));have M3:Hid (MSr u3 k hs rg ps (.slice aH hs.length cH) (.slice aR rg.length cR) bv):=(⟨⟨M2.out.1.fr hf3 (fun q hq⟨i,hi,e⟩=>(H.out.x q (.inl hq)).2 i hi e),M2.out.2.fr hf3 (fun q hq⟨i,hi,e⟩=>(H.out.x q (.inr hq)).2 i hi e)⟩,by rw[HK2.out];exact hm3⟩:MSr u3 k hs rg ps (.slice aH hs.length cH) (.slice aR rg.length cR) bv)
 have R3:Hid (u3.ownsRow B 68 1 (.slice aP ps.length cP) ps.length bv):=row_frZ P2.out.p hf3 (fun q hq⟨i,hi,e⟩=>H.out.p.e i q hi e hq);clear hf3 hm3 a3 az az2;go_wp2;go_ret;exact⟨congrArg (fun n:Int=>Ending.returned (.int .i64 n)) (by rw[HK2.out]),F3.out,M3.out,R3.out⟩
theorem markSourceRes_rows{B:Nat}(ln d:Int)(hs:List HS)(rg:List VV)(ps:List (List SV))(aH aR aP:Option Addr)(cH cR cP:Nat)(bv:List Value)(k:Int)(w:World)(lH:hs.length<=8)(lR:rg.length<=8)(lp:ps.length<=1048576)(lb:∀j,j<ps.length->(ps.getD j []).length<=1048576)(ht:tot ps<=1099511627776)(k0:0<=k)(k1:k<=1048576)(h:SR w B hs rg ps (.slice aH hs.length cH) (.slice aR rg.length cR) (.slice aP ps.length cP) bv):
 Calls Tryz.prog 10 #[.agg #[.int .i64 ln,.int .i64 d,.slice aH hs.length cH,.slice aR rg.length cR,.slice aP ps.length cP],.int .i64 k] w fun e w'=>e=.returned (.int .i64 (k+3*(hs.length:Int)+6*(rg.length:Int)+11*(tot ps:Int)))/\Fr (SO ps.length (.slice aH hs.length cH) (.slice aR rg.length cR) bv) w w'/\MSr w' k hs rg ps (.slice aH hs.length cH) (.slice aR rg.length cR) bv/\w'.ownsRow B 68 1 (.slice aP ps.length cP) ps.length bv:=by
 have H:Hid (SR w B hs rg ps (.slice aH hs.length cH) (.slice aR rg.length cR) (.slice aP ps.length cP) bv):=h;have LB:Hid (∀j,j<ps.length->(ps.getD j []).length<=1048576):=lb;have HT:Hid (tot ps<=1099511627776):=ht;clear h lb ht;go_enter Tryz.func10,Tryz.ntmps10;go_upto_region 1 with fail;obtain⟨u,hu,hbu,hc⟩:∃y,w.alloc (.cells #[.int .i64 ln,.int .i64 d,.slice aH hs.length cH,.slice aR rg.length cR,.slice aP ps.length cP] 31)=y/\Below w.heap.size w y/\y.heap[w.heap.size]?=some (.cells #[.int .i64 ln,.int .i64 d,.slice aH hs.length cH,.slice aR rg.length cR,.slice aP ps.length cP] 31):=⟨_,rfl,(Below.refl _ _).alloc (Nat.le_refl _) _,heap_alloc_newB _ _⟩
 rw[hu];obtain⟨x,hx⟩:∃y,w.heap.size=y:=⟨_,rfl⟩
 rw[hx]at hc⊢;have BU:Hid (Below w.heap.size w u):=hbu;have a1:=hp_cell hc 1;have a2:=hp_cell hc 2;have a3:=hp_cell hc 3;have a4:=hp_cell hc 4;have az:=(Array.getElem?_eq_some_iff.1 hc).1;simp only[List.getElem?_toArray,List.getElem?_cons_zero,List.getElem?_cons_succ]at a1 a2 a3 a4;clear hu hbu hc hx;go_wp2_with fail;refine(markSource_rows d hs rg ps aH aR aP cH cR cP bv k u lH lR lp LB.out HT.out k0 k1 (H.out.below BU.out)).mono ?_;rintro e u3⟨rfl,hf3,hm3,hr3⟩;have F3:Hid (Fr (SO ps.length (.slice aH hs.length cH) (.slice aR rg.length cR) bv) w u3):=(Fr.of_below BU.out).trans hf3;have M3:Hid (MSr u3 k hs rg ps (.slice aH hs.length cH) (.slice aR rg.length cR) bv):=hm3;have R3:Hid (u3.ownsRow B 68 1 (.slice aP ps.length cP) ps.length bv):=hr3;obtain⟨k2,hk2⟩:∃y:Int,(k+3*(hs.length:Int)+6*(rg.length:Int)+11*(tot ps:Int))=y:=⟨_,rfl⟩
 have HK2:Hid ((k+3*(hs.length:Int)+6*(rg.length:Int)+11*(tot ps:Int))=k2):=hk2;rw[hk2];clear hf3 hm3 hr3 a1 a2 a3 a4 az hk2;go_wp2;go_ret;exact⟨congrArg (fun n:Int=>Ending.returned (.int .i64 n)) HK2.out.symm,F3.out,M3.out,R3.out⟩
theorem heldSource_rows{B:Nat}(d:Int)(hs:List HS)(rg:List VV)(ps:List (List SV))(aH aR aP:Option Addr)(cH cR cP:Nat)(bv:List Value)(k:Int)(w w0:World)(lH:hs.length<=8)(lR:rg.length<=8)(ln:ps.length<=1048576)(lb:∀j,j<ps.length->(ps.getD j []).length<=1048576)(ht:tot ps<=1099511627776)(k0:0<=k)(k1:k<=1048576)(h:SR w0 B hs rg ps (.slice aH hs.length cH) (.slice aR rg.length cR) (.slice aP ps.length cP) bv)(hm:MSr w k hs rg ps (.slice aH hs.length cH) (.slice aR rg.length cR) bv)(hr:w.ownsRow B 68 1 (.slice aP ps.length cP) ps.length bv):
 Calls Tryz.prog 20 #[.agg #[.int .i64 d,.slice aH hs.length cH,.slice aR rg.length cR,.slice aP ps.length cP],.int .i64 k] w fun e w'=>e=.returned (.int .i64 (k+3*(hs.length:Int)+6*(rg.length:Int)+11*(tot ps:Int)))/\Below w.heap.size w w':=by
 have H:Hid (SR w0 B hs rg ps (.slice aH hs.length cH) (.slice aR rg.length cR) (.slice aP ps.length cP) bv):=h;have HM:Hid (MSr w k hs rg ps (.slice aH hs.length cH) (.slice aR rg.length cR) bv):=hm;have HR:Hid (w.ownsRow B 68 1 (.slice aP ps.length cP) ps.length bv):=hr;have LB:Hid (∀j,j<ps.length->(ps.getD j []).length<=1048576):=lb;have HT:Hid (tot ps<=1099511627776):=ht;clear h lb ht hm hr;go_enter Tryz.func20,Tryz.ntmps20;go_upto_region 1 with fail;obtain⟨u,hu,hbu,hc⟩:∃y,w.alloc (.cells #[.int .i64 d,.slice aH hs.length cH,.slice aR rg.length cR,.slice aP ps.length cP] 29)=y/\Below w.heap.size w y/\y.heap[w.heap.size]?=some (.cells #[.int .i64 d,.slice aH hs.length cH,.slice aR rg.length cR,.slice aP ps.length cP] 29):=⟨_,rfl,(Below.refl _ _).alloc (Nat.le_refl _) _,heap_alloc_newB _ _⟩
 rw[hu];obtain⟨x,hx⟩:∃y,w.heap.size=y:=⟨_,rfl⟩
 rw[hx]at hc⊢;have BU:Hid (Below w.heap.size w u):=hbu;have C0:Hid (u.heap[x]?=some (.cells #[.int .i64 d,.slice aH hs.length cH,.slice aR rg.length cR,.slice aP ps.length cP] 29)):=hc;have MU:Hid (MSr u k hs rg ps (.slice aH hs.length cH) (.slice aR rg.length cR) bv):=HM.out.below hbu;have RU:Hid (u.ownsRow B 68 1 (.slice aP ps.length cP) ps.length bv):=row_belowB HR.out hbu;have a1:=hp_cell hc 1;have a2:=hp_cell hc 2;have az:=(Array.getElem?_eq_some_iff.1 hc).1;simp only[List.getElem?_toArray,List.getElem?_cons_zero,List.getElem?_cons_succ]at a1 a2;clear hu hbu hc hx;go_wp2_with fail;refine(heldSig_rows hs rg aH aR cH cR k u w0 (by omega) (by omega) k0 k1 H.out.g MU.out.g).mono ?_;rintro e u2⟨rfl,hb2⟩;have c2:u2.heap[x]?=some (.cells #[.int .i64 d,.slice aH hs.length cH,.slice aR rg.length cR,.slice aP ps.length cP] 29):=(hb2.block x az).trans C0.out;have a3:=hp_cell c2 3;have az2:=(Array.getElem?_eq_some_iff.1 c2).1;simp only[List.getElem?_toArray,List.getElem?_cons_zero,List.getElem?_cons_succ]at a3;have B2:Hid (Below w.heap.size w u2):=BU.out.trans (hb2.mono BU.out.size);have MU2:Hid (MSr u2 k hs rg ps (.slice aH hs.length cH) (.slice aR rg.length cR) bv):=MU.out.below hb2;have RU2:Hid (u2.ownsRow B 68 1 (.slice aP ps.length cP) ps.length bv):=row_belowB RU.out hb2;obtain⟨k2,hk2⟩:∃y:Int,k+3*(hs.length:Int)+6*(rg.length:Int)=y:=⟨_,rfl⟩
 have HK2:Hid (k+3*(hs.length:Int)+6*(rg.length:Int)=k2):=hk2;rw[hk2];have k20:0<=k2:=by omega
 have k21:k2<=1099511627776:=by omega
 have kn2:¬k2<0:=by omega
 clear hb2 a1 a2 hk2 c2;go_wp2_with fail;refine(heldProcS_rows ps _ bv k2 u2 w0 ln LB.out HT.out k20 k21 H.out.p RU2.out (by have:=MU2.out.p;rw[HK2.out]at this;exact this)).mono ?_;rintro e u3⟨rfl,hw3⟩;rw[hw3];obtain⟨k3,hk3⟩:∃y:Int,k2+11*(tot ps:Int)=y:=⟨_,rfl⟩
 have HK3:Hid (k2+11*(tot ps:Int)=k3):=hk3;rw[hk3];have kn3:¬k3<0:=by omega
 have kn4:k3<=1125899906842624:=by have:=HT.out;omega
 clear hw3 hk3 a3 az az2;go_wp2;go_ret;exact⟨congrArg (fun n:Int=>Ending.returned (.int .i64 n)) (by rw[HK2.out,HK3.out]),B2.out⟩
theorem heldSourceRes_rows{B:Nat}(ln d:Int)(hs:List HS)(rg:List VV)(ps:List (List SV))(aH aR aP:Option Addr)(cH cR cP:Nat)(bv:List Value)(k:Int)(w w0:World)(lH:hs.length<=8)(lR:rg.length<=8)(lp:ps.length<=1048576)(lb:∀j,j<ps.length->(ps.getD j []).length<=1048576)(ht:tot ps<=1099511627776)(k0:0<=k)(k1:k<=1048576)(h:SR w0 B hs rg ps (.slice aH hs.length cH) (.slice aR rg.length cR) (.slice aP ps.length cP) bv)(hm:MSr w k hs rg ps (.slice aH hs.length cH) (.slice aR rg.length cR) bv)(hr:w.ownsRow B 68 1 (.slice aP ps.length cP) ps.length bv):
 Calls Tryz.prog 11 #[.agg #[.int .i64 ln,.int .i64 d,.slice aH hs.length cH,.slice aR rg.length cR,.slice aP ps.length cP],.int .i64 k] w fun e w'=>e=.returned (.int .i64 (k+3*(hs.length:Int)+6*(rg.length:Int)+11*(tot ps:Int)))/\Below w.heap.size w w':=by
 have H:Hid (SR w0 B hs rg ps (.slice aH hs.length cH) (.slice aR rg.length cR) (.slice aP ps.length cP) bv):=h;have HM:Hid (MSr w k hs rg ps (.slice aH hs.length cH) (.slice aR rg.length cR) bv):=hm;have HR:Hid (w.ownsRow B 68 1 (.slice aP ps.length cP) ps.length bv):=hr;have LB:Hid (∀j,j<ps.length->(ps.getD j []).length<=1048576):=lb;have HT:Hid (tot ps<=1099511627776):=ht;clear h lb ht hm hr;go_enter Tryz.func11,Tryz.ntmps11;go_upto_region 1 with fail;obtain⟨u,hu,hbu,hc⟩:∃y,w.alloc (.cells #[.int .i64 ln,.int .i64 d,.slice aH hs.length cH,.slice aR rg.length cR,.slice aP ps.length cP] 31)=y/\Below w.heap.size w y/\y.heap[w.heap.size]?=some (.cells #[.int .i64 ln,.int .i64 d,.slice aH hs.length cH,.slice aR rg.length cR,.slice aP ps.length cP] 31):=⟨_,rfl,(Below.refl _ _).alloc (Nat.le_refl _) _,heap_alloc_newB _ _⟩
 rw[hu];obtain⟨x,hx⟩:∃y,w.heap.size=y:=⟨_,rfl⟩
 rw[hx]at hc⊢;have BU:Hid (Below w.heap.size w u):=hbu;have MU:Hid (MSr u k hs rg ps (.slice aH hs.length cH) (.slice aR rg.length cR) bv):=HM.out.below hbu;have RU:Hid (u.ownsRow B 68 1 (.slice aP ps.length cP) ps.length bv):=row_belowB HR.out hbu;have a1:=hp_cell hc 1;have a2:=hp_cell hc 2;have a3:=hp_cell hc 3;have a4:=hp_cell hc 4;have az:=(Array.getElem?_eq_some_iff.1 hc).1;simp only[List.getElem?_toArray,List.getElem?_cons_zero,List.getElem?_cons_succ]at a1 a2 a3 a4;clear hu hbu hc hx;go_wp2_with fail;refine(heldSource_rows d hs rg ps aH aR aP cH cR cP bv k u w0 lH lR lp LB.out HT.out k0 k1 H.out MU.out RU.out).mono ?_;rintro e u3⟨rfl,hb3⟩;have B3:Hid (Below w.heap.size w u3):=BU.out.trans (hb3.mono BU.out.size);obtain⟨k2,hk2⟩:∃y:Int,(k+3*(hs.length:Int)+6*(rg.length:Int)+11*(tot ps:Int))=y:=⟨_,rfl⟩
 have HK2:Hid ((k+3*(hs.length:Int)+6*(rg.length:Int)+11*(tot ps:Int))=k2):=hk2;rw[hk2];have kn:¬k2<0:=by omega
 clear hb3 a1 a2 a3 a4 az hk2;go_wp2;go_ret;exact⟨congrArg (fun n:Int=>Ending.returned (.int .i64 n)) HK2.out.symm,B3.out⟩
end Go.Proofs.YtblfmpgdhpbffaaGreatDoor
