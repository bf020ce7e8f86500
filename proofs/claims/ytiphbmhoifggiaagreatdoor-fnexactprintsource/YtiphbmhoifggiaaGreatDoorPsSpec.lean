import Derived.Test.YtiphbmhoifggiaaGreatDoorPsShow
import Derived.Laws.IdiomStrings
set_option maxHeartbeats 4000000
set_option maxRecDepth 20000
namespace Go.Proofs.YtiphbmhoifggiaaGreatDoor
open Go.RowKit
theorem l6Show_any(L:Nat->SV)(b n:Nat)(me procs deep:Int)(ln:n<=500)(hpr:procs<=100):∀(m i te:Nat)(d:Int),te-i<=m->i<=te->te<=n->(chk L me procs deep i te d).1=0->ShowC L b n i te:=by
 intro m;induction m with
 |zero=>intro i te d hm hit hte hc;exact l6Show_go L b n i te me procs deep d hit hte ln hpr hc (fun i' te' d' _ _ _ h4 _=>by omega)
 |succ m ih=>intro i te d hm hit hte hc;exact l6Show_go L b n i te me procs deep d hit hte ln hpr hc (fun i' te' d' _ h2 h3 h4 h5=>ih i' te' d' (by omega) h2 (by omega) h5)
def wordT(s:Bool):List UInt8:=if s=true then[115,101,99,114,101,116]else[112,117,98,108,105,99]
def heapT(h:HS):List UInt8:=[104,101,97,112,32]++Lib.itoa h.size++[32]++wordT h.s++(if h.w=true then[32,119,114,105,116,101,10]else[32,114,101,97,100,10])
def regT(i:Nat)(v:VV):List UInt8:=
 [114,101,103,32]++Lib.itoa (i:Int)++[32]++
 (if v.k=1 then[112,116,114,32]++Lib.itoa v.h++[32]++Lib.itoa v.lo++[32]++Lib.itoa v.hi++[10]
  else if v.m= -1 then[97,110,121,32]++wordT v.s++[10]else Lib.itoa v.m++[32]++wordT v.s++[10])
def procT(p:PV):List UInt8:=[112,114,111,99,10]++prB p.L 0 p.n
def headT(d:Int):List UInt8:=if d=1 then[100,105,97,108,101,99,116,32,109,97,115,109,10]else[100,105,97,108,101,99,116,32,103,97,115,10]
def upT(f:Nat->List UInt8):Nat->List UInt8
 |0=>[]
 |k+1=>upT f k++f k
theorem upT_len(f:Nat->List UInt8)(m:Nat):∀n,(∀k,k<n->(f k).length<=m)->(upT f n).length<=n*m
 |0,_=>by simp[upT]
 |n+1,h=>by
  have h1:=upT_len f m n (fun k hk=>h k (by omega));have h2:=h n (by omega);simp only[upT,List.length_append];rw[Nat.add_mul];omega
def srcT(d:Int)(nH:Nat)(S:Nat->HS)(V:Nat->VV)(np:Nat)(Pv:Nat->PV):List UInt8:=headT d++upT (fun i=>heapT (S i)) nH++upT (fun i=>regT i (V i)) 8++upT (fun i=>procT (Pv i)) np
def srcOK(d:Int)(nH:Nat)(S:Nat->HS)(nR:Nat)(V:Nat->VV)(np:Nat)(Pv:Nat->PV):Bool:=decide (0<=d/\d<=1)&&sigOK nH S nR V&&decide ((unitR Pv np).1=0)
def ByA(w:World)(B:Nat)(v:Value)(t:List UInt8):Prop:=∃g cap,v=.slice (some ⟨g,0,none⟩) t.length cap/\B<=g/\g<w.heap.size/\(∀i,i<t.length->w.cell? ⟨g,i,none⟩=some (.int .u8 ((t.getD i 0).toNat:Int)))/\(∀i,i<t.length->w.frozen? ⟨g,i,none⟩=false)
theorem wordT_len(s:Bool):(wordT s).length<=6:=by cases s<;>decide
theorem heapT_len(h:HS)(k:h.size.natAbs<10000000000000000):(heapT h).length<=40:=by
 have h1:=itoa_len _ k;have h2:=wordT_len h.s;unfold heapT;split<;>simp only[List.length_append,List.length_cons,List.length_nil]<;>omega
theorem good_small{x:VV}{n:Nat}(hn:n<=8)(h:goodB x (n:Int)=true):x.m.natAbs<10000000000000000/\x.h.natAbs<10000000000000000/\x.lo.natAbs<10000000000000000/\x.hi.natAbs<10000000000000000:=by
 unfold goodB at h;split at h
 ·have:=of_decide_eq_true h;omega
 ·have:=of_decide_eq_true h;omega
theorem regT_len(i:Nat)(hi:i<8)(v:VV){n:Nat}(hn:n<=8)(h:goodB v (n:Int)=true):(regT i v).length<=100:=by
 obtain⟨h1,h2,h3,h4⟩:=good_small hn h;have k0:=itoa_len (i:Int) (by omega);have k1:=itoa_len _ h1;have k2:=itoa_len _ h2;have k3:=itoa_len _ h3;have k4:=itoa_len _ h4;have k5:=wordT_len v.s;unfold regT;split
 ·simp only[List.length_append,List.length_cons,List.length_nil];omega
 ·split<;>simp only[List.length_append,List.length_cons,List.length_nil]<;>omega
theorem headT_len(d:Int):(headT d).length<=13:=by unfold headT;split<;>decide
structure SrcG(nH:Nat)(S:Nat->HS)(nR:Nat)(V:Nat->VV)(np:Nat)(Pv:Nat->PV):Prop where
 h8:nH<=8
 hs:∀i,i<nH->1<=(S i).size/\(S i).size<=4096
 r8:nR=8
 rs:∀i,i<8->goodB (V i) (nH:Int)=true
 p20:np<=20
 ps:∀i,i<np->(Pv i).n<=500/\(chk (Pv i).L (i:Int) (np:Int) 16 0 (Pv i).n 0).1=0
theorem src_good{d:Int}{nH nR np:Nat}{S:Nat->HS}{V:Nat->VV}{Pv:Nat->PV}(h:srcOK d nH S nR V np Pv=true):(d=0∨d=1)/\SrcG nH S nR V np Pv:=by
 unfold srcOK sigOK goodAll at h;simp only[Bool.and_eq_true,decide_eq_true_eq,List.all_eq_true,List.mem_range]at h;obtain⟨⟨h1,⟨h2,h3⟩,h4,h5⟩,h6⟩:=h;refine⟨by omega,h2,fun i hi=>?_,h4,fun i hi=>h5 i (by omega),?_,?_⟩
 ·have:=h3 i hi
  unfold sigAt at this;exact of_decide_eq_true this
 ·unfold unitR at h6
  split at h6
  ·cases h6
  ·omega
 ·intro i hi
  unfold unitR at h6;split at h6
  ·cases h6
  ·split at h6
   ·contradiction
   ·rename_i h7
    have:=find_all np 0 (Classical.not_not.1 h7) i (by omega) (by omega);exact⟨by omega,this.2⟩
theorem SrcG.procs{nH nR np:Nat}{S:Nat->HS}{V:Nat->VV}{Pv:Nat->PV}(g:SrcG nH S nR V np Pv){i:Nat}(hi:i<np):(procT (Pv i)).length<=300005:=by
 obtain⟨h1,h2⟩:=g.ps i hi;have:=prB_len (by have:=g.p20;omega) _ 0 (Pv i).n 0 (Nat.le_refl _) (Nat.zero_le _) h2;unfold procT;simp only[List.length_append,List.length_cons,List.length_nil];omega
theorem SrcG.len{nH nR np:Nat}{S:Nat->HS}{V:Nat->VV}{Pv:Nat->PV}(g:SrcG nH S nR V np Pv)(d:Int){a b c:Nat}(ha:a<=nH)(hb:b<=8)(hc:c<=np):(headT d++upT (fun i=>heapT (S i)) a++upT (fun i=>regT i (V i)) b++upT (fun i=>procT (Pv i)) c).length<=6100000:=by
 have h0:=headT_len d;have h1:=upT_len (fun i=>heapT (S i)) 40 a (fun k hk=>heapT_len _ (by have:=g.hs k (by omega);omega));have h2:=upT_len (fun i=>regT i (V i)) 100 b (fun k hk=>regT_len k (by omega) _ g.h8 (g.rs k (by omega)));have h3:=upT_len (fun i=>procT (Pv i)) 300005 c (fun k hk=>g.procs (by omega));have h4:a*40<=8*40:=Nat.mul_le_mul_right _ (Nat.le_trans ha g.h8);have h5:b*100<=8*100:=Nat.mul_le_mul_right _ hb;have h6:c*300005<=20*300005:=Nat.mul_le_mul_right _ (Nat.le_trans hc g.p20);simp only[List.length_append];omega
theorem word_any(s:Bool)(w:World):Calls Tryz.prog 19 #[.bool s] w fun e w'=>e=.returned (.string (bs (wordT s)))/\w'=w:=by
 cases s;all_goals
  go_enter Tryz.func19,Tryz.ntmps19;go_wp2;go_ret;exact⟨rfl,rfl⟩
theorem hs_at{u:World}{bH nH:Nat}{S:Nat->HS}(h:Arr u bH (nH*3) (hsF S)){q:Nat}(hq:q<nH):u.cell? ⟨bH,q*3,none⟩=some (.int .i64 (S q).size)/\u.cell? ⟨bH,q*3+1,none⟩=some (.bool (S q).s)/\u.cell? ⟨bH,q*3+2,none⟩=some (.bool (S q).w):=
 ⟨(h.cell (i:=q*3+0) (by omega)).trans (congrArg some (hsF_at S q 0 (by omega))),(h.cell (i:=q*3+1) (by omega)).trans (congrArg some (hsF_at S q 1 (by omega))),(h.cell (i:=q*3+2) (by omega)).trans (congrArg some (hsF_at S q 2 (by omega)))⟩
theorem v_at{u:World}{b n:Nat}{V:Nat->VV}(h:Arr u b (n*6) (vF V)){q:Nat}(hq:q<n):u.cell? ⟨b,q*6,none⟩=some (.int .i64 (V q).k)/\u.cell? ⟨b,q*6+1,none⟩=some (.bool (V q).s)/\u.cell? ⟨b,q*6+2,none⟩=some (.int .i64 (V q).m)/\u.cell? ⟨b,q*6+3,none⟩=some (.int .i64 (V q).h)/\u.cell? ⟨b,q*6+4,none⟩=some (.int .i64 (V q).lo)/\u.cell? ⟨b,q*6+5,none⟩=some (.int .i64 (V q).hi):=
 ⟨(h.cell (i:=q*6+0) (by omega)).trans (congrArg some (vF_at V q 0 (by omega))),(h.cell (i:=q*6+1) (by omega)).trans (congrArg some (vF_at V q 1 (by omega))),(h.cell (i:=q*6+2) (by omega)).trans (congrArg some (vF_at V q 2 (by omega))),(h.cell (i:=q*6+3) (by omega)).trans (congrArg some (vF_at V q 3 (by omega))),(h.cell (i:=q*6+4) (by omega)).trans (congrArg some (vF_at V q 4 (by omega))),(h.cell (i:=q*6+5) (by omega)).trans (congrArg some (vF_at V q 5 (by omega)))⟩
structure SB(u:World)(sb:Nat)(d:Int)(bH cH nH:Nat)(S:Nat->HS)(bR cR nR:Nat)(V:Nat->VV)(bp np cp:Nat)(Pv:Nat->PV)(blk:Nat->Nat):Prop where
 c:Cl u sb [.int .i64 d,.slice (some ⟨bH,0,none⟩) nH cH,.slice (some ⟨bR,0,none⟩) nR cR,.slice (some ⟨bp,0,none⟩) np cp]
 s:SigCp u bH nH S bR nR V
 p:PCp u bp np Pv blk
theorem SB.below{u v:World}{sb:Nat}{d:Int}{bH cH nH:Nat}{S:Nat->HS}{bR cR nR:Nat}{V:Nat->VV}{bp np cp:Nat}{Pv:Nat->PV}{blk:Nat->Nat}(h:SB u sb d bH cH nH S bR cR nR V bp np cp Pv blk)(hb:Below u.heap.size u v):SB v sb d bH cH nH S bR cR nR V bp np cp Pv blk:=⟨h.c.below hb,h.s.below hb,h.p.below hb⟩
theorem sb_c{u:World}{sb:Nat}{d:Int}{bH cH nH:Nat}{S:Nat->HS}{bR cR nR:Nat}{V:Nat->VV}{bp np cp:Nat}{Pv:Nat->PV}{blk:Nat->Nat}(h:SB u sb d bH cH nH S bR cR nR V bp np cp Pv blk):u.cell? ⟨sb,0,none⟩=some (.int .i64 d)/\u.cell? ⟨sb,1,none⟩=some (.slice (some ⟨bH,0,none⟩) nH cH)/\u.cell? ⟨sb,2,none⟩=some (.slice (some ⟨bR,0,none⟩) nR cR)/\u.cell? ⟨sb,3,none⟩=some (.slice (some ⟨bp,0,none⟩) np cp):=
 ⟨h.c.2 0 (by simp),h.c.2 1 (by simp),h.c.2 2 (by simp),h.c.2 3 (by simp)⟩
theorem specSrc_bad(bH cH nH:Nat)(S:Nat->HS)(bR cR nR:Nat)(V:Nat->VV)(bp np cp:Nat)(Pv:Nat->PV)(blk:Nat->Nat)(d:Int)(w:World)(lH:nH<=1048576)(lR:nR<=1048576)(ln:np<=1048576)(lb:∀i,i<np->(Pv i).n<=1048576)(h1:SigCp w bH nH S bR nR V)(h2:PCp w bp np Pv blk)(hok:srcOK d nH S nR V np Pv=false):
 Calls Tryz.prog 5 #[.agg #[.int .i64 d,.slice (some ⟨bH,0,none⟩) nH cH,.slice (some ⟨bR,0,none⟩) nR cR,.slice (some ⟨bp,0,none⟩) np cp]] w fun e w'=>∃v,e=.returned v/\ByA w' w.heap.size v []/\Below w.heap.size w w':=by
 go_enter Tryz.func5,Tryz.ntmps5;go_upto_region 1 with fail;obtain⟨u,hu,hbu,hsb⟩:∃x,w.alloc (.cells #[.int .i64 d,.slice (some ⟨bH,0,none⟩) nH cH,.slice (some ⟨bR,0,none⟩) nR cR,.slice (some ⟨bp,0,none⟩) np cp] 38)=x/\Below w.heap.size w x/\SB x w.heap.size d bH cH nH S bR cR nR V bp np cp Pv blk:=⟨_,rfl,(Below.refl _ _).alloc (Nat.le_refl _) _,Cl.new,h1.below ((Below.refl _ _).alloc (Nat.le_refl _) _),h2.below ((Below.refl _ _).alloc (Nat.le_refl _) _)⟩
 rw[hu];clear hu h1 h2;obtain⟨sb,hsz⟩:∃x,w.heap.size=x:=⟨_,rfl⟩
 rw[hsz]at hsb⊢;have HSB:Hid (SB u sb d bH cH nH S bR cR nR V bp np cp Pv blk):=hsb;have BU:Hid (Below w.heap.size w u):=hbu;have LB:Hid (∀i,i<np->(Pv i).n<=1048576):=lb;have HSZ:Hid (w.heap.size=sb):=hsz;obtain⟨q0,q1,q2,q3⟩:=sb_c hsb;have sl:=hsb.c.1;clear hbu hsb lb hsz;have fin:∀w1,Below w.heap.size w w1->(∃v,Ending.returned (.slice (some ⟨w1.heap.size,0,none⟩) 0 0)=.returned v/\ByA (w1.alloc (.cells #[] 5)) w.heap.size v []/\Below w.heap.size w (w1.alloc (.cells #[] 5))):=fun w1 hw1=>by
  exact⟨_,rfl,⟨_,_,rfl,hw1.size,by simp,(fun i hi=>absurd hi (Nat.not_lt_zero _)),(fun i hi=>absurd hi (Nat.not_lt_zero _))⟩,hw1.alloc hw1.size _⟩
 have FIN:Hid _:=fin;clear fin;have HOK:Hid (srcOK d nH S nR V np Pv=false):=hok;clear hok;cases hd:decide ((0:Int)<=d/\d<=1)with
 |false=>
  go_wp2_with fail;refine(v_in_any _ _ _ _).mono ?_;rintro e w2⟨rfl,hw2⟩;rw[hw2,hd];clear hw2 hd;go_wp2;go_ret;exact FIN.out _ BU.out
 |true=>
  have HD:Hid (decide ((0:Int)<=d/\d<=1)=true):=hd;clear hd;go_wp2_with fail;refine(v_in_any _ _ _ _).mono ?_;rintro e w2⟨rfl,hw2⟩;rw[hw2,HD.out];clear hw2;go_wp2_with fail;refine(specSig_any bH cH nH S bR cR nR V _ lH lR HSB.out.s).mono ?_;rintro e w3⟨rfl,hb3⟩;have B3:Hid (Below w.heap.size w w3):=BU.out.trans (hb3.mono BU.out.size);have HS3:Hid (SB w3 sb d bH cH nH S bR cR nR V bp np cp Pv blk):=HSB.out.below hb3;clear hb3 q0 q1 q2 q3;obtain⟨q0,q1,q2,q3⟩:=sb_c HS3.out;cases hs:sigOK nH S nR V with
  |false=>
   clear hs;go_wp2;go_ret;exact FIN.out _ B3.out
  |true=>
   have HSG:Hid (sigOK nH S nR V=true):=hs;clear hs;go_wp2_with fail;refine(specUnit_any bp np cp Pv blk _ ln LB.out HS3.out.p).mono ?_;rintro e w4⟨rfl,hb4⟩;have B4:Hid (Below w.heap.size w w4):=B3.out.trans (hb4.mono B3.out.size);clear hb4 q0 q1 q2 q3;have hne:((unitR Pv np).1 !=0)=true:=by
    have:=HOK.out;unfold srcOK at this;rw[HD.out,HSG.out]at this;simpa using this
   have hf:∀w,(Instr.field 50 (.agg #[.int .i64 (unitR Pv np).1,.int .i64 (unitR Pv np).2.1,.int .i64 (unitR Pv np).2.2]) 0).run Tryz.prog w=.ok (.int .i64 (unitR Pv np).1) w:=fun w=>by kernel_rfl
   go_wp2;go_ret;exact FIN.out _ B4.out
end Go.Proofs.YtiphbmhoifggiaaGreatDoor
