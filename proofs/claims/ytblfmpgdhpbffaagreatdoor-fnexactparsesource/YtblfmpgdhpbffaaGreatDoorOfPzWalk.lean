import Derived.Test.YtblfmpgdhpbffaaGreatDoorOfPzMk4
import Derived.Test.YtblfmpgdhpbffaaGreatDoorPzSpec
import Derived.Test.YtblfmpgdhpbffaaGreatDoorPzImpl
set_option maxHeartbeats 8000000
set_option maxRecDepth 20000
namespace Go.Proofs.YtblfmpgdhpbffaaGreatDoor
open Go.RowKit
def AllB(S:PS)(m:Nat):Prop:=∀b∈S.ps,b.length<=m
theorem AllB.bod{S:PS}{m:Nat}(h:AllB S m):(bodS S).length<=m:=by
 unfold bodS;rw[List.getLastD_eq_getLast?];cases hc:S.ps.getLast? with
 |none=>exact Nat.zero_le _
 |some b=>exact h b (List.mem_of_getLast? hc)
theorem AllB.put{S:PS}{m:Nat}(h:AllB S m)(b:List SV)(hb:b.length<=m+1)(os:List OV):AllB {putS S b with op:=os} (m+1):=fun x hx=>by
 have hx':x∈S.ps.dropLast++[b]:=hx;rcases List.mem_append.1 hx' with h1|h1
 ·have:=h x (List.dropLast_subset _ h1)
  omega
 ·have e:x=b:=by simpa using h1
  rw[e];exact hb
theorem AllB.same{S S':PS}{m:Nat}(h:AllB S m)(e:S'.ps=S.ps):AllB S' (m+1):=fun b hb=>by
 rw[e]at hb;have:=h b hb;omega
theorem AllB.line{S S':PS}{l:List UInt8}{m:Nat}(h:AllB S m)(hl:linS S l=some S'):AllB S' (m+1):=by
 have hbd:=h.bod;have addB:∀s,AllB (addS S s) (m+1):=fun s=>h.put (bodS S++[s]) (by simp;omega) S.op
 unfold linS at hl;generalize fldS l=f at hl;split at hl
 ·unfold diaS at hl
  split at hl
  ·cases hd:diaW (fd f 1)with
   |none=>rw[hd]at hl;cases hl
   |some d=>rw[hd]at hl;cases hl;exact h.same rfl
  ·cases hl
 split at hl
 ·unfold heapS at hl
  split at hl
  ·split at hl
   ·cases hl;exact h.same rfl
   ·cases hl
  ·cases hl
 split at hl
 ·unfold regS at hl
  split at hl
  ·split at hl
   ·split at hl
    ·cases hv:valS (f.drop 2)with
     |none=>rw[hv]at hl;cases hl
     |some v=>rw[hv]at hl;cases hl;exact h.same rfl
    ·cases hl
   ·cases hl
  ·cases hl
 split at hl
 ·unfold procS at hl
  split at hl
  ·cases hl
   intro b hb;have hb':b∈S.ps++[[]]:=hb;rcases List.mem_append.1 hb' with h1|h1
   ·have:=h b h1;omega
   ·have e:b=[]:=by simpa using h1
    rw[e];exact Nat.zero_le _
  ·cases hl
 unfold stmS at hl;split at hl
 ·have opnB:∀k',opnS S k' f=some S'->AllB S' (m+1):=fun k' hl=>by
   unfold opnS at hl;split at hl
   ·cases hl
    exact h.put _ (by simp;omega) _
   ·cases hl
  split at hl
  ·exact opnB _ hl
  split at hl
  ·exact opnB _ hl
  split at hl
  ·unfold elsS at hl
   split at hl
   ·cases hl
   ·split at hl
    ·cases hl;exact h.same rfl
    ·cases hl
  split at hl
  ·unfold endS at hl
   split at hl
   ·cases hl
   ·split at hl
    ·cases hl
     exact h.put _ (by rw[List.length_set];omega) _
    ·cases hl
  split at hl
  ·unfold calS at hl
   split at hl
   ·cases hn:numW false (fd f 1)with
    |none=>rw[hn]at hl;cases hl
    |some n=>rw[hn]at hl;cases hl;exact addB _
   ·cases hl
  ·unfold insS at hl
   split at hl
   ·split at hl
    ·cases hl;exact addB _
    ·cases hl
   ·cases hl
 ·cases hl
theorem AllB.mono{S:PS}{m n:Nat}(h:AllB S m)(hmn:m<=n):AllB S n:=fun b hb=>Nat.le_trans (h b hb) hmn
theorem psT_all:∀(n:Nat)(t:List UInt8)(S:PS)(k m:Nat),t.length<=n->AllB S m->AllB (psT t S k).2 (m+n)
 |n,t,S,k,m,hn,h=>by
  rw[psT_eq];split
  ·exact h.mono (Nat.le_add_right _ _)
  ·rename_i h0
   split
   ·exact h.mono (Nat.le_add_right _ _)
   ·have h1:t.length≠0:=fun e=>h0 (List.length_eq_zero_iff.1 e)
    cases hl:linS S (t.take (pre noNl t))with
    |none=>exact h.mono (Nat.le_add_right _ _)
    |some S'=>
     match n,hn with
     |0,hn=>exact absurd (Nat.le_zero.1 hn) h1
     |n+1,hn=>
      have:=psT_all n (t.drop (pre noNl t+1)) S' (k+1) (m+1) (by simp only[List.length_drop];omega) (h.line hl);exact this.mono (by omega)
def ansT(t:List UInt8):Int×Int×List HS×List VV×List (List SV):=
 if 100000<t.length then(-1,0,[],[],[])else if(psT t ps0 1).1=0 then(0,(psT t ps0 1).2.d,(psT t ps0 1).2.hs,(psT t ps0 1).2.rg,(psT t ps0 1).2.ps)else(((psT t ps0 1).1:Int),0,[],[],[])
theorem sr_nil(w:World)(B:Nat):SR w B [] [] [] (.slice none 0 0) (.slice none 0 0) (.slice none 0 0) []:=by
 refine⟨⟨?_,?_,fun q h=>(by cases h)⟩,⟨?_,rfl,fun j hj=>absurd hj (Nat.not_lt_zero _),fun i j q _ hi=>absurd hi (Nat.not_lt_zero _),fun i q hi=>absurd hi (Nat.not_lt_zero _)⟩,fun q hq=>?_⟩
 ·exact⟨rfl,.inl ⟨rfl,rfl⟩⟩
 ·exact⟨rfl,.inl ⟨rfl,rfl⟩⟩
 ·exact⟨rfl,.inl ⟨rfl,rfl⟩⟩
 ·rcases hq with hq|hq
  ·cases hq
  ·cases hq
structure AnsP(e:Ending)(w':World)(B:Nat)(ln d:Int)(hs:List HS)(rg:List VV)(ps:List (List SV)):Prop where
 o:∃(aH aR aP:Option Addr)(cH cR cP:Nat)(bv:List Value),e=.returned (.agg #[.int .i64 ln,.int .i64 d,.slice aH hs.length cH,.slice aR rg.length cR,.slice aP ps.length cP])/\SR w' B hs rg ps (.slice aH hs.length cH) (.slice aR rg.length cR) (.slice aP ps.length cP) bv
 h:hs.length<=8
 r:rg.length<=8
 p:ps.length<=100001
 b:∀j,j<ps.length->(ps.getD j []).length<=1048576
 t:tot ps<=1099511627776
theorem ans_of{t:List UInt8}{B:Nat}{e:Ending}{w':World}(h:if 100000<t.length then e=.returned (.agg #[.int .i64 (-1),.int .i64 0,.slice none 0 0,.slice none 0 0,.slice none 0 0])else SrcR B (psT t ps0 1) e w'){ln d:Int}{hs:List HS}{rg:List VV}{ps:List (List SV)}(ha:ansT t=(ln,d,hs,rg,ps)):AnsP e w' B ln d hs rg ps:=by
 have nil:∀x:Int,e=.returned (.agg #[.int .i64 x,.int .i64 0,.slice none 0 0,.slice none 0 0,.slice none 0 0])->AnsP e w' B x 0 [] [] []:=fun x he=>
  ⟨⟨none,none,none,0,0,0,[],he,sr_nil w' B⟩,Nat.zero_le _,Nat.zero_le _,Nat.zero_le _,fun j hj=>absurd hj (Nat.not_lt_zero _),Nat.zero_le _⟩
 unfold ansT at ha;by_cases hl:100000<t.length
 ·rw[if_pos hl]at ha h
  cases ha;exact nil _ h
 ·rw[if_neg hl]at ha h
  unfold SrcR at h;have hall:AllB (psT t ps0 1).2 (0+t.length):=psT_all t.length t ps0 1 0 (Nat.le_refl _) (fun b hb=>absurd hb List.not_mem_nil);by_cases h1:(psT t ps0 1).1=0
  ·rw[if_pos h1]at ha h
   cases ha;obtain⟨sH,sR,sP,bv,he,hR,hbl,hI,hN⟩:=h;have hsr:=sr_of hR hbl;have n1:=row_n hsr.g.h;have n2:=row_n hsr.g.r;have n3:=row_n hsr.p.p;rw[n1,n2,n3]at he hsr;have hb:∀b∈(psT t ps0 1).2.ps,b.length<=100000:=fun b hb=>by have:=hall b hb;omega
   refine⟨⟨sH.a,sR.a,sP.a,sH.c,sR.c,sP.c,bv,he,hsr⟩,hI.hs,Nat.le_of_eq hI.rg,hN.ps,fun j hj=>?_,?_⟩
   ·rw[List.getD_eq_getElem?_getD,List.getElem?_eq_getElem hj]
    have:=hb _ (List.getElem_mem hj);show(_:List SV).length<=_;exact Nat.le_trans this (by decide)
   ·have h2:=tot_le 100000 _ hb
    have h3:=hN.ps;have h4:(psT t ps0 1).2.ps.length*100000<=100001*100000:=Nat.mul_le_mul_right _ h3;omega
  ·rw[if_neg h1]at ha h
   cases ha;exact nil _ h
theorem Fr.under{S:Nat->Prop}{B:Nat}{w w':World}(h:Fr S w w')(hB:B<=w.heap.size)(hs:∀k,k<B->¬S k):Below B w w':=⟨h.os,h.tape,h.output,h.size,fun k hk=>h.block k (by omega) (hs k hk)⟩
theorem obj_fr{S:Nat->Prop}{w w':World}{p:Nat}{o:Obj}(h:w.heap[p]?=some o)(f:Fr S w w')(hn:¬S p):w'.heap[p]?=some o:=(f.block p (Array.getElem?_eq_some_iff.1 h).1 hn).trans h
theorem obj_below{w w':World}{p:Nat}{o:Obj}(h:w.heap[p]?=some o)(f:Below w.heap.size w w'):w'.heap[p]?=some o:=(f.block p (Array.getElem?_eq_some_iff.1 h).1).trans h
theorem Env.at{w u:World}(h:Env w w.heap.size)(b:Below w.heap.size w u):Env u u.heap.size:=
 have k:=h.below b
 ⟨k.sp,k.p10,k.es,k.er,k.ml,fun n hn g hg=>Nat.lt_of_lt_of_le (h.g n hn g hg) b.size⟩
theorem lawPz_great(ao:Option Addr)(len cap:Nat)(w:World)(h:1048576<len)(hm:len<=maxLen):
 Calls Tryz.prog 3 #[.slice ao len cap] w fun e w'=>e=.returned (.bool true)/\Below w.heap.size w w':=by
 unfold maxLen at hm;have h':(1048576:Int)<len:=by omega
 go_enter Tryz.func3,Tryz.ntmps3;go_wp2;go_ret;exact⟨rfl,Below.refl _ _⟩
structure LW(w:World)(b1 b3 p2 p4:Nat)(ln d:Int)(hs:List HS)(rg:List VV)(ps:List (List SV))(asH asR asP:Option Addr)(csH csR csP:Nat)(bsv:List Value)(agH agR agP:Option Addr)(cgH cgR cgP:Nat)(bgv:List Value)(v:World):Prop where
 B:Below w.heap.size w v
 S:SR v b1 hs rg ps (.slice asH hs.length csH) (.slice asR rg.length csR) (.slice asP ps.length csP) bsv
 G:SR v b3 hs rg ps (.slice agH hs.length cgH) (.slice agR rg.length cgR) (.slice agP ps.length cgP) bgv
 Q:v.heap[p2]?=some (.cells #[.int .i64 ln,.int .i64 d,.slice asH hs.length csH,.slice asR rg.length csR,.slice asP ps.length csP] 31)
 P:v.heap[p4]?=some (.cells #[.int .i64 ln,.int .i64 d,.slice agH hs.length cgH,.slice agR rg.length cgR,.slice agP ps.length cgP] 31)
theorem LW.below{w v v':World}{b1 b3 p2 p4:Nat}{ln d:Int}{hs:List HS}{rg:List VV}{ps:List (List SV)}{asH asR asP:Option Addr}{csH csR csP:Nat}{bsv:List Value}{agH agR agP:Option Addr}{cgH cgR cgP:Nat}{bgv:List Value}(h:LW w b1 b3 p2 p4 ln d hs rg ps asH asR asP csH csR csP bsv agH agR agP cgH cgR cgP bgv v)(hb:Below v.heap.size v v'):LW w b1 b3 p2 p4 ln d hs rg ps asH asR asP csH csR csP bsv agH agR agP cgH cgR cgP bgv v':=
 ⟨h.B.trans (hb.mono h.B.size),h.S.below hb,h.G.below hb,obj_below h.Q hb,obj_below h.P hb⟩
theorem LW.fr{Z:Nat->Prop}{w v v':World}{b1 b3 p2 p4:Nat}{ln d:Int}{hs:List HS}{rg:List VV}{ps:List (List SV)}{asH asR asP:Option Addr}{csH csR csP:Nat}{bsv:List Value}{agH agR agP:Option Addr}{cgH cgR cgP:Nat}{bgv:List Value}(h:LW w b1 b3 p2 p4 ln d hs rg ps asH asR asP csH csR csP bsv agH agR agP cgH cgR cgP bgv v)(hf:Fr Z v v')(hw:∀k,k<w.heap.size->¬Z k)(hs':∀q,SA ps.length (.slice asH hs.length csH) (.slice asR rg.length csR) (.slice asP ps.length csP) bsv q->¬Z q)(hg:∀q,SA ps.length (.slice agH hs.length cgH) (.slice agR rg.length cgR) (.slice agP ps.length cgP) bgv q->¬Z q)(h2:¬Z p2)(h4:¬Z p4):LW w b1 b3 p2 p4 ln d hs rg ps asH asR asP csH csR csP bsv agH agR agP cgH cgR cgP bgv v':=
 ⟨h.B.trans (hf.under h.B.size hw),h.S.fr hf hs',h.G.fr hf hg,obj_fr h.Q hf h2,obj_fr h.P hf h4⟩
theorem lawPz_walk(ao:Option Addr)(t:List UInt8)(cap:Nat)(w:World)(hlen:t.length<=1048576)(hin:InRow w ao t.length (numF .u8 (bF t)))(hE:Env w w.heap.size):
 Calls Tryz.prog 3 #[.slice ao t.length cap] w fun e w'=>e=.returned (.bool true)/\Below w.heap.size w w':=by
 have HI:Hid (InRow w ao t.length (numF .u8 (bF t))):=hin;have HE:Hid (Env w w.heap.size):=hE;clear hin hE;have hlen':(t.length:Int)<=1048576:=by omega
 have hlb:(t.length:Int)<=1099511627776:=by omega
 obtain⟨ln,d,hs,rg,ps,hA⟩:∃ln d hs rg ps,ansT t=(ln,d,hs,rg,ps):=⟨_,_,_,_,_,rfl⟩
 have HA:Hid (ansT t=(ln,d,hs,rg,ps)):=hA;clear hA;go_enter Tryz.func3,Tryz.ntmps3;go_wp2_with fail;refine(toByteS_in ao t.length cap (bF t) _ hlen HI.out).mono ?_;rintro e w1⟨rfl,hb1,ha1⟩;have A1:Hid (Arr w1 w.heap.size t.length (numF .u8 (bF t))):=ha1;have B1:Hid (Below w.heap.size w w1):=hb1;clear ha1 hb1;go_wp2_with fail;refine(specSrcP_any _ _ _ t _ hlen' A1.out.at).mono ?_;rintro e w2⟨hr,hb2⟩;have hr2:=ans_of hr HA.out;have lH:=hr2.h;have lR:=hr2.r;have lp:ps.length<=1048576:=by have:=hr2.p;omega
 have LB:Hid (∀j,j<ps.length->(ps.getD j []).length<=1048576):=hr2.b;have HT:Hid (tot ps<=1099511627776):=hr2.t;obtain⟨asH,asR,asP,csH,csR,csP,bsv,rfl,ho2⟩:=hr2.o;have B2:Hid (Below w.heap.size w w2):=B1.out.trans (hb2.mono B1.out.size);have S2:Hid (SR w2 w1.heap.size hs rg ps (.slice asH hs.length csH) (.slice asR rg.length csR) (.slice asP ps.length csP) bsv):=ho2;clear ho2 hb2 A1 hr hr2;go_wp2_with fail;obtain⟨u2,hu,bu,pu⟩:∃v,w2.alloc (.cells #[.int .i64 ln,.int .i64 d,.slice asH hs.length csH,.slice asR rg.length csR,.slice asP ps.length csP] 31)=v/\Below w2.heap.size w2 v/\v.heap[w2.heap.size]?=some (.cells #[.int .i64 ln,.int .i64 d,.slice asH hs.length csH,.slice asR rg.length csR,.slice asP ps.length csP] 31):=⟨_,rfl,(Below.refl _ _).alloc (Nat.le_refl _) _,heap_alloc_newB _ _⟩
 rw[hu];clear hu;obtain⟨p2,hp⟩:∃p,w2.heap.size=p:=⟨_,rfl⟩
 have PZ2:w2.heap.size<=p2/\p2<=w2.heap.size:=by omega
 rw[hp]at pu⊢;have P2:Hid (u2.heap[p2]?=some (.cells #[.int .i64 ln,.int .i64 d,.slice asH hs.length csH,.slice asR rg.length csR,.slice asP ps.length csP] 31)):=pu;have BU:Hid (Below w.heap.size w u2):=B2.out.trans (bu.mono B2.out.size);have SU:Hid (SR u2 w1.heap.size hs rg ps (.slice asH hs.length csH) (.slice asR rg.length csR) (.slice asP ps.length csP) bsv):=S2.out.below bu;clear bu pu hp B2 S2;refine(toByteS_in ao t.length cap (bF t) _ hlen (HI.out.below BU.out (Nat.le_refl _))).mono ?_;rintro e w3⟨rfl,hb3,ha3⟩;have B3:Hid (Below w.heap.size w w3):=BU.out.trans (hb3.mono BU.out.size);have X3:Hid (Arr w3 u2.heap.size t.length (numF .u8 (bF t))):=ha3;have S3:Hid (SR w3 w1.heap.size hs rg ps (.slice asH hs.length csH) (.slice asR rg.length csR) (.slice asP ps.length csP) bsv):=SU.out.below hb3;have Q3:Hid (w3.heap[p2]?=some (.cells #[.int .i64 ln,.int .i64 d,.slice asH hs.length csH,.slice asR rg.length csR,.slice asP ps.length csP] 31)):=obj_below P2.out hb3;have p2x:p2<u2.heap.size:=(Array.getElem?_eq_some_iff.1 P2.out).1;have wx:w.heap.size<=u2.heap.size:=BU.out.size;have x3:u2.heap.size<w3.heap.size:=ha3.lt;obtain⟨xb,hxb⟩:∃y,u2.heap.size=y:=⟨_,rfl⟩
 rw[hxb]at X3 p2x wx x3⊢;have HSQ:Hid (∀q,SA ps.length (.slice asH hs.length csH) (.slice asR rg.length csR) (.slice asP ps.length csP) bsv q->q<xb):=fun q hq=>by have:=(SU.out.lt hq).2;omega
 clear hb3 ha3 BU SU P2 hxb;go_wp2_with fail;refine(implSrcP_any _ _ _ t _ (HE.out.at B3.out) hlen' (Nat.le_refl _) X3.out.at).mono ?_;rintro e w4⟨hr,hb4⟩;obtain⟨agH,agR,agP,cgH,cgR,cgP,bgv,rfl,ho4⟩:=(ans_of hr HA.out).o;have B4:Hid (Below w.heap.size w w4):=B3.out.trans (hb4.mono B3.out.size);have S4:Hid (SR w4 w1.heap.size hs rg ps (.slice asH hs.length csH) (.slice asR rg.length csR) (.slice asP ps.length csP) bsv):=S3.out.below hb4;have X4:Hid (Arr w4 xb t.length (numF .u8 (bF t))):=X3.out.below hb4 X3.out.lt;have Q4:Hid (w4.heap[p2]?=some (.cells #[.int .i64 ln,.int .i64 d,.slice asH hs.length csH,.slice asR rg.length csR,.slice asP ps.length csP] 31)):=obj_below Q3.out hb4;have G4:Hid (SR w4 w3.heap.size hs rg ps (.slice agH hs.length cgH) (.slice agR rg.length cgR) (.slice agP ps.length cgP) bgv):=ho4;have x4:xb<w4.heap.size:=Nat.lt_of_lt_of_le x3 hb4.size;clear ho4 hb4 S3 X3 Q3 hr;go_upto_region 6 with fail;obtain⟨u4,hu,bu,pu⟩:∃v,w4.alloc (.cells #[.int .i64 ln,.int .i64 d,.slice agH hs.length cgH,.slice agR rg.length cgR,.slice agP ps.length cgP] 31)=v/\Below w4.heap.size w4 v/\v.heap[w4.heap.size]?=some (.cells #[.int .i64 ln,.int .i64 d,.slice agH hs.length cgH,.slice agR rg.length cgR,.slice agP ps.length cgP] 31):=⟨_,rfl,(Below.refl _ _).alloc (Nat.le_refl _) _,heap_alloc_newB _ _⟩
 rw[hu];clear hu;obtain⟨p4,hp⟩:∃p,w4.heap.size=p:=⟨_,rfl⟩
 have PZ4:w4.heap.size<=p4/\p4<=w4.heap.size:=by omega
 rw[hp]at pu⊢;have P4:Hid (u4.heap[p4]?=some (.cells #[.int .i64 ln,.int .i64 d,.slice agH hs.length cgH,.slice agR rg.length cgR,.slice agP ps.length cgP] 31)):=pu;have BU:Hid (Below w.heap.size w u4):=B4.out.trans (bu.mono B4.out.size);have X5:Hid (Arr u4 xb t.length (numF .u8 (bF t))):=X4.out.below bu X4.out.lt;have xp4:xb<p4:=by omega
 have HGQ:Hid (∀q,SA ps.length (.slice agH hs.length cgH) (.slice agR rg.length cgR) (.slice agP ps.length cgP) bgv q->xb<q/\q<p4):=fun q hq=>by have:=G4.out.lt hq;omega
 have L5:Hid (LW w w1.heap.size w3.heap.size p2 p4 ln d hs rg ps asH asR asP csH csR csP bsv agH agR agP cgH cgR cgP bgv u4):=⟨BU.out,S4.out.below bu,G4.out.below bu,obj_below Q4.out bu,P4.out⟩
 clear bu pu hp B4 S4 X4 Q4 G4 BU P4;obtain⟨q0,q1,q2,q3,q4⟩:=hp5 L5.out.Q;have qz:=(Array.getElem?_eq_some_iff.1 L5.out.Q).1;obtain⟨g0,g1,g2,g3,g4⟩:=hp5 L5.out.P;have gz:=(Array.getElem?_eq_some_iff.1 L5.out.P).1;go_wp2_with fail;refine(eqSourceRes_rows ln d hs rg ps agH agR agP cgH cgR cgP bgv asH asR asP csH csR csP bsv _ lH lR lp LB.out L5.out.G L5.out.S).mono ?_;rintro e w6⟨rfl,hb6⟩;have L6:Hid (LW w w1.heap.size w3.heap.size p2 p4 ln d hs rg ps asH asR asP csH csR csP bsv agH agR agP cgH cgR cgP bgv w6):=L5.out.below hb6;have X6:Hid (Arr w6 xb t.length (numF .u8 (bF t))):=X5.out.below hb6 X5.out.lt;clear hb6 L5 X5;clear q0 q1 q2 q3 q4 qz;clear g0 g1 g2 g3 g4 gz;go_wp2_with fail;refine(toByteS_in ao t.length cap (bF t) _ hlen (HI.out.below L6.out.B (Nat.le_refl _))).mono ?_;rintro e w7⟨rfl,hb7,ha7⟩;have L7:Hid (LW w w1.heap.size w3.heap.size p2 p4 ln d hs rg ps asH asR asP csH csR csP bsv agH agR agP cgH cgR cgP bgv w7):=L6.out.below hb7;have X7:Hid (Arr w7 xb t.length (numF .u8 (bF t))):=X6.out.below hb7 X6.out.lt;have Y7:Hid (Arr w7 w6.heap.size t.length (numF .u8 (bF t))):=ha7;clear hb7 ha7 L6 X6;go_wp2_with fail;refine(eqByteS_in _ _ t.length _ _ (bF t) _ hlb (.inr ⟨xb,rfl,X7.out⟩) (.inr ⟨_,rfl,Y7.out⟩)).mono ?_;rintro e w8⟨rfl,hb8⟩;have L8:Hid (LW w w1.heap.size w3.heap.size p2 p4 ln d hs rg ps asH asR asP csH csR csP bsv agH agR agP cgH cgR cgP bgv w8):=L7.out.below hb8;have X8:Hid (Arr w8 xb t.length (numF .u8 (bF t))):=X7.out.below hb8 X7.out.lt;clear hb8 L7 X7 Y7;go_wp2_with fail;refine(markB_in _ t.length _ _ 1 _ hlb (by omega) (by omega) (.inr ⟨xb,rfl,X8.out⟩)).mono ?_;rintro e w9⟨rfl,hf9,_⟩;have L9:Hid (LW w w1.heap.size w3.heap.size p2 p4 ln d hs rg ps asH asR asP csH csR csP bsv agH agR agP cgH cgR cgP bgv w9):=L8.out.fr (hf9.mono (T:=fun q=>q=xb) (fun q hq=>by have:=hq.2;simp at this;exact this.symm)) (fun k hk e=>by omega) (fun q hq e=>by have:=HSQ.out q hq;omega) (fun q hq e=>by have:=HGQ.out q hq;omega) (by omega) (by omega);clear hf9 L8 X8;obtain⟨km,hkm⟩:∃y:Int,1+(t.length:Int)=y:=⟨_,rfl⟩
 rw[hkm];have km0:¬km<0:=by omega
 clear hkm;obtain⟨q0,q1,q2,q3,q4⟩:=hp5 L9.out.Q;have qz:=(Array.getElem?_eq_some_iff.1 L9.out.Q).1;obtain⟨g0,g1,g2,g3,g4⟩:=hp5 L9.out.P;have gz:=(Array.getElem?_eq_some_iff.1 L9.out.P).1;go_wp2_with fail;refine(eqSourceRes_rows ln d hs rg ps agH agR agP cgH cgR cgP bgv asH asR asP csH csR csP bsv _ lH lR lp LB.out L9.out.G L9.out.S).mono ?_;rintro e w10⟨rfl,hb10⟩;have L10:Hid (LW w w1.heap.size w3.heap.size p2 p4 ln d hs rg ps asH asR asP csH csR csP bsv agH agR agP cgH cgR cgP bgv w10):=L9.out.below hb10;clear hb10 L9;clear q0 q1 q2 q3 q4 qz;clear g0 g1 g2 g3 g4 gz;obtain⟨g0,g1,g2,g3,g4⟩:=hp5 L10.out.P;have gz:=(Array.getElem?_eq_some_iff.1 L10.out.P).1;go_wp2_with fail;refine(markSourceRes_rows ln d hs rg ps agH agR agP cgH cgR cgP bgv 1 _ lH lR lp LB.out HT.out (by omega) (by omega) L10.out.G).mono ?_;rintro e w11⟨rfl,hf11,hm11,hr11⟩;have M11:Hid (MSr w11 1 hs rg ps (.slice agH hs.length cgH) (.slice agR rg.length cgR) bgv):=hm11;have R11:Hid (w11.ownsRow w3.heap.size 68 1 (.slice agP ps.length cgP) ps.length bgv):=hr11;have HG:Hid (SR w10 w3.heap.size hs rg ps (.slice agH hs.length cgH) (.slice agR rg.length cgR) (.slice agP ps.length cgP) bgv):=L10.out.G;have S11:Hid (SR w11 w1.heap.size hs rg ps (.slice asH hs.length csH) (.slice asR rg.length csR) (.slice asP ps.length csP) bsv):=L10.out.S.fr hf11 (fun q h1 h2=>by have:=HSQ.out q h1;have:=HGQ.out q (.inr h2);omega);have Q11:Hid (w11.heap[p2]?=some (.cells #[.int .i64 ln,.int .i64 d,.slice asH hs.length csH,.slice asR rg.length csR,.slice asP ps.length csP] 31)):=obj_fr L10.out.Q hf11 (fun e=>by have:=HGQ.out p2 (.inr e);omega);have P11:Hid (w11.heap[p4]?=some (.cells #[.int .i64 ln,.int .i64 d,.slice agH hs.length cgH,.slice agR rg.length cgR,.slice agP ps.length cgP] 31)):=obj_fr L10.out.P hf11 (fun e=>by have:=HGQ.out p4 (.inr e);omega);have B11:Hid (Below w.heap.size w w11):=L10.out.B.trans (hf11.under L10.out.B.size (fun k hk e=>by have:=HGQ.out k (.inr e);omega));obtain⟨kn,hkn⟩:∃y:Int,(1+3*(hs.length:Int)+6*(rg.length:Int)+11*(tot ps:Int))=y:=⟨_,rfl⟩
 have HKN:Hid ((1+3*(hs.length:Int)+6*(rg.length:Int)+11*(tot ps:Int))=kn):=hkn;rw[hkn];have kn0:¬kn<0:=by omega
 clear hkn hf11 hm11 hr11 L10;clear g0 g1 g2 g3 g4 gz;obtain⟨g0,g1,g2,g3,g4⟩:=hp5 P11.out;have gz:=(Array.getElem?_eq_some_iff.1 P11.out).1;go_wp2_with fail;refine(heldSourceRes_rows ln d hs rg ps agH agR agP cgH cgR cgP bgv 1 _ _ lH lR lp LB.out HT.out (by omega) (by omega) HG.out M11.out R11.out).mono ?_;rintro e w12⟨rfl,hb12⟩;rw[HKN.out];have B12:Hid (Below w.heap.size w w12):=B11.out.trans (hb12.mono B11.out.size);have S12:Hid (SR w12 w1.heap.size hs rg ps (.slice asH hs.length csH) (.slice asR rg.length csR) (.slice asP ps.length csP) bsv):=S11.out.below hb12;have Q12:Hid (w12.heap[p2]?=some (.cells #[.int .i64 ln,.int .i64 d,.slice asH hs.length csH,.slice asR rg.length csR,.slice asP ps.length csP] 31)):=obj_below Q11.out hb12;clear hb12 S11 Q11 P11 B11 HG M11 R11;clear g0 g1 g2 g3 g4 gz;go_wp2_with fail;refine(toByteS_in ao t.length cap (bF t) _ hlen (HI.out.below B12.out (Nat.le_refl _))).mono ?_;rintro e w13⟨rfl,hb13,ha13⟩;have B13:Hid (Below w.heap.size w w13):=B12.out.trans (hb13.mono B12.out.size);have S13:Hid (SR w13 w1.heap.size hs rg ps (.slice asH hs.length csH) (.slice asR rg.length csR) (.slice asP ps.length csP) bsv):=S12.out.below hb13;have Q13:Hid (w13.heap[p2]?=some (.cells #[.int .i64 ln,.int .i64 d,.slice asH hs.length csH,.slice asR rg.length csR,.slice asP ps.length csP] 31)):=obj_below Q12.out hb13;have Y13:Hid (Arr w13 w12.heap.size t.length (numF .u8 (bF t))):=ha13;clear hb13 ha13 S12 Q12 B12;go_wp2_with fail;refine(implSrcP_any _ _ _ t _ (HE.out.at B13.out) hlen' (Nat.le_refl _) Y13.out.at).mono ?_;rintro e w14⟨hr,hb14⟩;obtain⟨ahH,ahR,ahP,chH,chR,chP,bhv,rfl,ho14⟩:=(ans_of hr HA.out).o;have B14:Hid (Below w.heap.size w w14):=B13.out.trans (hb14.mono B13.out.size);have S14:Hid (SR w14 w1.heap.size hs rg ps (.slice asH hs.length csH) (.slice asR rg.length csR) (.slice asP ps.length csP) bsv):=S13.out.below hb14;have Q14:Hid (w14.heap[p2]?=some (.cells #[.int .i64 ln,.int .i64 d,.slice asH hs.length csH,.slice asR rg.length csR,.slice asP ps.length csP] 31)):=obj_below Q13.out hb14;have H14:Hid (SR w14 w13.heap.size hs rg ps (.slice ahH hs.length chH) (.slice ahR rg.length chR) (.slice ahP ps.length chP) bhv):=ho14;clear ho14 hb14 S13 Q13 B13 Y13 hr;go_upto_region 23 with fail;obtain⟨u14,hu,bu,pu⟩:∃v,w14.alloc (.cells #[.int .i64 ln,.int .i64 d,.slice ahH hs.length chH,.slice ahR rg.length chR,.slice ahP ps.length chP] 31)=v/\Below w14.heap.size w14 v/\v.heap[w14.heap.size]?=some (.cells #[.int .i64 ln,.int .i64 d,.slice ahH hs.length chH,.slice ahR rg.length chR,.slice ahP ps.length chP] 31):=⟨_,rfl,(Below.refl _ _).alloc (Nat.le_refl _) _,heap_alloc_newB _ _⟩
 rw[hu];clear hu;obtain⟨p14,hp⟩:∃p,w14.heap.size=p:=⟨_,rfl⟩
 have PZ14:w14.heap.size<=p14/\p14<=w14.heap.size:=by omega
 rw[hp]at pu⊢;have P14:Hid (u14.heap[p14]?=some (.cells #[.int .i64 ln,.int .i64 d,.slice ahH hs.length chH,.slice ahR rg.length chR,.slice ahP ps.length chP] 31)):=pu;have BU:Hid (Below w.heap.size w u14):=B14.out.trans (bu.mono B14.out.size);have S15:Hid (SR u14 w1.heap.size hs rg ps (.slice asH hs.length csH) (.slice asR rg.length csR) (.slice asP ps.length csP) bsv):=S14.out.below bu;have Q15:Hid (u14.heap[p2]?=some (.cells #[.int .i64 ln,.int .i64 d,.slice asH hs.length csH,.slice asR rg.length csR,.slice asP ps.length csP] 31)):=obj_below Q14.out bu;have H15:Hid (SR u14 w13.heap.size hs rg ps (.slice ahH hs.length chH) (.slice ahR rg.length chR) (.slice ahP ps.length chP) bhv):=H14.out.below bu;clear bu pu hp B14 S14 Q14 H14;obtain⟨q0,q1,q2,q3,q4⟩:=hp5 Q15.out;have qz:=(Array.getElem?_eq_some_iff.1 Q15.out).1;obtain⟨g0,g1,g2,g3,g4⟩:=hp5 P14.out;have gz:=(Array.getElem?_eq_some_iff.1 P14.out).1;go_wp2_with fail;refine(eqSourceRes_rows ln d hs rg ps ahH ahR ahP chH chR chP bhv asH asR asP csH csR csP bsv _ lH lR lp LB.out H15.out S15.out).mono ?_;rintro e w16⟨rfl,hb16⟩;clear q0 q1 q2 q3 q4 qz;clear g0 g1 g2 g3 g4 gz;go_wp2;go_ret;exact⟨rfl,BU.out.trans (hb16.mono BU.out.size)⟩
end Go.Proofs.YtblfmpgdhpbffaaGreatDoor
