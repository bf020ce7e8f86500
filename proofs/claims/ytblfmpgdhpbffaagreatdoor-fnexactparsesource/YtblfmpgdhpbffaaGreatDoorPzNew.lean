import Derived.Test.YtblfmpgdhpbffaaGreatDoorPzMap
import Derived.Test.YtblfmpgdhpbffaaGreatDoorPzRep
import Derived.Test.YtblfmpgdhpbffaaGreatDoorOfRdRL
import Derived.Laws.EntriesVeiled
set_option maxHeartbeats 6400000
set_option maxRecDepth 20000
namespace Go.Proofs.YtblfmpgdhpbffaaGreatDoor
open Go.RowKit Go.Proofs
structure NR(w:World)(rb sb nb ob mf gR:Nat)(cs:Array Value)(v:World):Prop where
 SC:SC v sb nb ob mf 1
 OA:OpsAt v ob
 C:v.heap[rb]?=some (.cells cs 60)
 G:v.heap[gR]?=some (.cells (repL 8).toArray 47)
 b:Below w.heap.size w v
theorem NR.grown{w v v':World}{rb sb nb ob mf gR km:Nat}{cs:Array Value}(h:NR w rb sb nb ob mf gR cs v)(g:v.grownBy v' (some km))(z:w.heap.size<=km)(k1:sb<km)(k2:nb<km)(k3:ob<km)(k4:mf<km)(k5:rb<km)(k6:gR<km):NR w rb sb nb ob mf gR cs v':=by
 have kp:∀{q:Nat}{o:Obj},q<km->v.heap[q]?=some o->v'.heap[q]?=some o:=fun{q o}hq hh=>(g.block q (Array.getElem?_eq_some_iff.1 hh).1 (by intro e;cases e;omega)).trans hh
 obtain⟨oo,o1,o2⟩:=h.OA;obtain⟨om,m1,m2⟩:=h.SC.M;exact⟨⟨kp k1 h.SC.S,kp k2 h.SC.N,om,kp k4 m1,m2⟩,⟨oo,kp k3 o1,o2⟩,kp k5 h.C,kp k6 h.G,h.b.grown g h.b.size (by intro q e;cases e;omega)⟩
theorem NR.below{w v v':World}{rb sb nb ob mf gR:Nat}{cs:Array Value}(h:NR w rb sb nb ob mf gR cs v)(g:Below v.heap.size v v'):NR w rb sb nb ob mf gR cs v':=by
 have kp:∀{q:Nat}{o:Obj},v.heap[q]?=some o->v'.heap[q]?=some o:=fun{q o}hh=>(g.block q (Array.getElem?_eq_some_iff.1 hh).1).trans hh
 obtain⟨oo,o1,o2⟩:=h.OA;obtain⟨om,m1,m2⟩:=h.SC.M;exact⟨⟨kp h.SC.S,kp h.SC.N,om,kp m1,m2⟩,⟨oo,kp o1,o2⟩,kp h.C,kp h.G,h.b.trans (g.mono h.b.size)⟩
theorem NR.set{w v:World}{rb sb nb ob mf gR:Nat}{cs:Array Value}(h:NR w rb sb nb ob mf gR cs v)(z:w.heap.size<=rb)(k1:sb≠rb)(k2:nb≠rb)(k3:ob≠rb)(k4:mf≠rb)(k6:gR≠rb)(i:Nat)(x:Value):NR w rb sb nb ob mf gR (cs.setIfInBounds i x) (v.setCell ⟨rb,i,none⟩ x):=by
 have kp:∀{q:Nat}{o:Obj},q≠rb->v.heap[q]?=some o->(v.setCell ⟨rb,i,none⟩ x).heap[q]?=some o:=fun{q o}hq hh=>(Below.heap_setCell _ _ _ _ hq).trans hh
 obtain⟨oo,o1,o2⟩:=h.OA;obtain⟨om,m1,m2⟩:=h.SC.M;exact⟨⟨kp k1 h.SC.S,kp k2 h.SC.N,om,kp k4 m1,m2⟩,⟨oo,kp k3 o1,o2⟩,heap_setZ h.C i x,kp k6 h.G,h.b.setCell z x⟩
theorem rows_zero{w:World}{B gR:Nat}(h:w.heap[gR]?=some (.cells (repL 8).toArray 47))(hB:B<=gR):Rws w B (srcR (exP ps0 (.slice none 0 0)) ps0.hs ps0.rg (ppl ps0) (.slice none 0 0) (.slice (some ⟨gR,0,none⟩) 8 8) (.slice none 0 0) []):=by
 have e:srcR (exP ps0 (.slice none 0 0)) ps0.hs ps0.rg (ppl ps0) (.slice none 0 0) (.slice (some ⟨gR,0,none⟩) 8 8) (.slice none 0 0) []=[⟨117,2,.slice none 0 0,0,[]⟩,⟨88,3,.slice none 0 0,0,[]⟩,⟨47,6,.slice (some ⟨gR,0,none⟩) 8 8,8,repL 8⟩,⟨68,1,.slice none 0 0,0,[]⟩]:=rfl;rw[e];have nl:∀t z,w.ownsRow B t z (.slice none 0 0) 0 []:=fun t z=>⟨by simp,.inl ⟨rfl,rfl⟩⟩
 refine⟨fun j r hj=>?_,fun i j a b hij ha hb=>?_⟩
 ·match j,hj with
  |0,hj=>cases hj;exact nl _ _
  |1,hj=>cases hj;exact nl _ _
  |2,hj=>cases hj;exact⟨rfl,.inr ⟨gR,8,_,rfl,hB,h,Nat.le_refl _,by decide,rfl,rfl⟩⟩
  |3,hj=>cases hj;exact nl _ _
  |j+4,hj=>simp at hj
 ·intro k hk hk'
  match i,j,ha,hb with
  |0,_,ha,_=>cases ha;cases hk
  |1,_,ha,_=>cases ha;cases hk
  |2,0,_,hb=>cases hb;cases hk'
  |2,1,_,hb=>cases hb;cases hk'
  |2,2,_,_=>exact hij rfl
  |2,3,_,hb=>cases hb;cases hk'
  |2,j+4,_,hb=>simp at hb
  |3,_,ha,_=>cases ha;cases hk
  |i+4,_,ha,_=>simp at ha
theorem newReading_any(B:Nat)(w:World)(hE:Env w B)(hB:B<=w.heap.size):
 Calls Tryz.prog 15 #[] w fun e w'=>∃(rb sb nb ob mf km:Nat)(sR:Sl),e=.returned (.pointer (some ⟨rb,0,none⟩))/\Below w.heap.size w w'/\PR w' B ps0 rb sb nb ob mf km ⟨none,0,0⟩ sR ⟨none,0,0⟩ ⟨none,0,0⟩ []:=by
 have HE:Hid (Env w B):=hE;clear hE;go_enter Tryz.func15,Tryz.ntmps15;go_wp2_with fail;refine(newScribe_any 1 w HE.out.sp).mono ?_;rintro e w1⟨sb,nb,ob,mf,rfl,sc,hb,l1,l2,l3,l4,oa,z0,z1,z2,z3⟩;have P1:Hid (SC w1 sb nb ob mf 1/\OpsAt w1 ob/\Below w.heap.size w w1):=⟨sc,oa,hb⟩
 have ZZ:Hid (w.heap.size<=nb/\nb<ob/\ob<mf/\mf<sb/\sb<w1.heap.size):=⟨z0,z1,z2,z3,l1⟩
 clear sc hb l1 l2 l3 l4 oa z0 z1 z2 z3;go_upto_region 2 with fail;obtain⟨rb,hrb⟩:∃y,w1.heap.size=y:=⟨_,rfl⟩
 have Z1:Hid (w.heap.size<=nb/\nb<ob/\ob<mf/\mf<sb/\sb<rb):=(by have:=ZZ.out;omega:w.heap.size<=nb/\nb<ob/\ob<mf/\mf<sb/\sb<rb)
 obtain⟨u,hu,p2,cu,zu⟩:∃y,w1.alloc (.cells #[.int .i64 0,.slice none 0 0,.slice none 0 0,.slice none 0 0,.int .i64 0,.bool false,.bool false,.bool false,.bool false,.bool false,.bool false,.bool false,.bool false,.slice none 0 0,.pointer (some ⟨sb,0,none⟩),.map none] 60)=y/\Hid (SC y sb nb ob mf 1/\OpsAt y ob/\Below w.heap.size w y)/\Hid (y.heap[rb]?=some (.cells #[.int .i64 0,.slice none 0 0,.slice none 0 0,.slice none 0 0,.int .i64 0,.bool false,.bool false,.bool false,.bool false,.bool false,.bool false,.bool false,.bool false,.slice none 0 0,.pointer (some ⟨sb,0,none⟩),.map none] 60))/\Hid (y.heap.size=rb+1):=by
  have hb:Below w1.heap.size w1 (w1.alloc (.cells #[.int .i64 0,.slice none 0 0,.slice none 0 0,.slice none 0 0,.int .i64 0,.bool false,.bool false,.bool false,.bool false,.bool false,.bool false,.bool false,.bool false,.slice none 0 0,.pointer (some ⟨sb,0,none⟩),.map none] 60)):=(Below.refl _ _).alloc (Nat.le_refl _) _;have z:=ZZ.out;refine⟨_,rfl,⟨P1.out.1.below hb (by omega) (by omega) (by omega),P1.out.2.1.below hb (by omega),P1.out.2.2.trans (hb.mono (by omega))⟩,?_,(by simp;omega:(w1.alloc (.cells #[.int .i64 0,.slice none 0 0,.slice none 0 0,.slice none 0 0,.int .i64 0,.bool false,.bool false,.bool false,.bool false,.bool false,.bool false,.bool false,.bool false,.slice none 0 0,.pointer (some ⟨sb,0,none⟩),.map none] 60)).heap.size=rb+1)⟩;show _=_;rw[<-hrb];exact heap_alloc_newB _ _
 rw[hu,hrb];clear hu hrb P1 ZZ;go_wp2_with fail;obtain⟨u1,hu1,p3,cu1,zu1⟩:∃y,u.alloc (.cells #[.int .i64 0,.bool true,.int .i64 (-1),.int .i64 0,.int .i64 0,.int .i64 0] 47)=y/\Hid (Below u.heap.size u y)/\Hid (y.heap[u.heap.size]?=some (.cells rg1.toArray 47))/\Hid (y.heap.size=rb+2):=⟨_,rfl,(Below.refl _ _).alloc (Nat.le_refl _) _,heap_alloc_newB _ _,(by have:=zu.out;simp;omega:(u.alloc (.cells #[.int .i64 0,.bool true,.int .i64 (-1),.int .i64 0,.int .i64 0,.int .i64 0] 47)).heap.size=rb+2)⟩
 rw[hu1];clear hu1;refine(repeat_any u.heap.size u1 cu1.out).mono ?_;rintro e u2⟨rfl,hg,hb2⟩;obtain⟨gR,hgR⟩:∃y,u1.heap.size=y:=⟨_,rfl⟩
 rw[hgR]at hg⊢;have ZG:Hid (gR=rb+2):=(by have:=zu1.out;omega:gR=rb+2)
 have N2:Hid (NR w rb sb nb ob mf gR #[.int .i64 0,.slice none 0 0,.slice none 0 0,.slice none 0 0,.int .i64 0,.bool false,.bool false,.bool false,.bool false,.bool false,.bool false,.bool false,.bool false,.slice none 0 0,.pointer (some ⟨sb,0,none⟩),.map none] u2):=(by
  have bb:Below u.heap.size u u2:=p3.out.trans (hb2.mono p3.out.size);have zu':=zu.out;have z:=Z1.out;exact⟨p2.out.1.below bb (by omega) (by omega) (by omega),p2.out.2.1.below bb (by omega),(bb.block rb (by omega)).trans cu.out,hg,p2.out.2.2.trans (bb.mono p2.out.2.2.size)⟩:NR w rb sb nb ob mf gR #[.int .i64 0,.slice none 0 0,.slice none 0 0,.slice none 0 0,.int .i64 0,.bool false,.bool false,.bool false,.bool false,.bool false,.bool false,.bool false,.bool false,.slice none 0 0,.pointer (some ⟨sb,0,none⟩),.map none] u2)
 have zu2:gR<u2.heap.size:=(Array.getElem?_eq_some_iff.1 hg).1;have c2:=hp_cell N2.out.C 2;simp only[List.getElem?_toArray,List.getElem?_cons_zero,List.getElem?_cons_succ]at c2;have cf:=hp_frz N2.out.C;clear hg hb2 p2 cu p3 cu1 zu zu1 hgR;go_upto_region 3 with fail;have N3:Hid (NR w rb sb nb ob mf gR #[.int .i64 0,.slice none 0 0,.slice (some ⟨gR,0,none⟩) 8 8,.slice none 0 0,.int .i64 0,.bool false,.bool false,.bool false,.bool false,.bool false,.bool false,.bool false,.bool false,.slice none 0 0,.pointer (some ⟨sb,0,none⟩),.map none] (u2.setCell ⟨rb,2,none⟩ (.slice (some ⟨gR,0,none⟩) 8 8))):=N2.out.set (by have:=Z1.out;omega) (by have:=Z1.out;omega) (by have:=Z1.out;omega) (by have:=Z1.out;omega) (by have:=Z1.out;omega) (by have:=ZG.out;omega) 2 _;have zu3:gR<(u2.setCell ⟨rb,2,none⟩ (.slice (some ⟨gR,0,none⟩) 8 8)).heap.size:=(Array.getElem?_eq_some_iff.1 N3.out.G).1;clear c2 cf N2 zu2;generalize u2.setCell ⟨rb,2,none⟩ (.slice (some ⟨gR,0,none⟩) 8 8)=u3 at N3 zu3⊢;have hmk:∀w:World,(Instr.makeMap 58 none).run Tryz.prog w=.ok (.map (some w.heap.size)) (w.alloc (.map #[] 0)):=fun w=>run_makeMap _ w
 have hmf:∀(fn:Fn)(first cap:Array Value)(w:World),(Instr.makeFunc fn first cap).run Tryz.prog w=.ok (.func fn first cap) w:=fun _ _ _ _=>rfl
 obtain⟨km,hkm⟩:∃y,u3.heap.size=y:=⟨_,rfl⟩
 have HKM:Hid (u3.heap.size=km):=hkm;have ZK:Hid (gR<km):=(by omega:gR<km)
 have M0:MapF (u3.alloc (.map #[] 0)) km 0 (fun _=>none):=by rw[<-hkm];exact MapF.made u3
 have N4:NR w rb sb nb ob mf gR #[.int .i64 0,.slice none 0 0,.slice (some ⟨gR,0,none⟩) 8 8,.slice none 0 0,.int .i64 0,.bool false,.bool false,.bool false,.bool false,.bool false,.bool false,.bool false,.bool false,.slice none 0 0,.pointer (some ⟨sb,0,none⟩),.map none] (u3.alloc (.map #[] 0)):=N3.out.below ((Below.refl _ _).alloc (Nat.le_refl _) _);obtain⟨v0,hv0⟩:∃y,u3.alloc (.map #[] 0)=y:=⟨_,rfl⟩
 rw[hv0]at M0 N4;obtain⟨v1,p1,M1,g1⟩:=M0.put (by omega) ⟨#[100,105,97,108,101,99,116]⟩ (by decide) (mth 28 rb);obtain⟨v2,p2,M2,g2⟩:=M1.put (by omega) ⟨#[104,101,97,112]⟩ (by decide) (mth 29 rb);obtain⟨v3,p3,M3,g3⟩:=M2.put (by omega) ⟨#[114,101,103]⟩ (by decide) (mth 30 rb);obtain⟨v4,p4,M4,g4⟩:=M3.put (by omega) ⟨#[112,114,111,99]⟩ (by decide) (mth 31 rb);obtain⟨v5,p5,M5,g5⟩:=M4.put (by omega) ⟨#[105,102]⟩ (by decide) (mth 32 rb);obtain⟨v6,p6,M6,g6⟩:=M5.put (by omega) ⟨#[119,104,105,108,101]⟩ (by decide) (mth 33 rb);obtain⟨v7,p7,M7,g7⟩:=M6.put (by omega) ⟨#[101,108,115,101]⟩ (by decide) (mth 34 rb);obtain⟨v8,p8,M8,g8⟩:=M7.put (by omega) ⟨#[101,110,100]⟩ (by decide) (mth 35 rb);obtain⟨v9,p9,M9,g9⟩:=M8.put (by omega) ⟨#[99,97,108,108]⟩ (by decide) (mth 36 rb);have NX:Hid (NR w rb sb nb ob mf gR #[.int .i64 0,.slice none 0 0,.slice (some ⟨gR,0,none⟩) 8 8,.slice none 0 0,.int .i64 0,.bool false,.bool false,.bool false,.bool false,.bool false,.bool false,.bool false,.bool false,.slice none 0 0,.pointer (some ⟨sb,0,none⟩),.map none] v9):=(by
  have z:=Z1.out;have zg:=ZG.out;have zk:=ZK.out;have q:∀{a b:World},a.grownBy b (some km)->NR w rb sb nb ob mf gR #[.int .i64 0,.slice none 0 0,.slice (some ⟨gR,0,none⟩) 8 8,.slice none 0 0,.int .i64 0,.bool false,.bool false,.bool false,.bool false,.bool false,.bool false,.bool false,.bool false,.slice none 0 0,.pointer (some ⟨sb,0,none⟩),.map none] a->NR w rb sb nb ob mf gR #[.int .i64 0,.slice none 0 0,.slice (some ⟨gR,0,none⟩) 8 8,.slice none 0 0,.int .i64 0,.bool false,.bool false,.bool false,.bool false,.bool false,.bool false,.bool false,.bool false,.slice none 0 0,.pointer (some ⟨sb,0,none⟩),.map none] b:=fun g h=>h.grown g (by omega) (by omega) (by omega) (by omega) (by omega) (by omega) (by omega)
  exact q g9 (q g8 (q g7 (q g6 (q g5 (q g4 (q g3 (q g2 (q g1 N4)))))))):NR w rb sb nb ob mf gR #[.int .i64 0,.slice none 0 0,.slice (some ⟨gR,0,none⟩) 8 8,.slice none 0 0,.int .i64 0,.bool false,.bool false,.bool false,.bool false,.bool false,.bool false,.bool false,.bool false,.slice none 0 0,.pointer (some ⟨sb,0,none⟩),.map none] v9)
 have MX:Hid (MapF v9 km 9 (kinK rb 0)):=M9.congr (kinK_zero rb);clear g1 g2 g3 g4 g5 g6 g7 g8 g9 M0 M1 M2 M3 M4 M5 M6 M7 M8 M9 N4 N3;simp only[mth]at p1 p2 p3 p4 p5 p6 p7 p8 p9;have c15:=hp_cell NX.out.C 15;simp only[List.getElem?_toArray,List.getElem?_cons_zero,List.getElem?_cons_succ]at c15;have cf:=hp_frz NX.out.C;have NY:Hid (NR w rb sb nb ob mf gR #[.int .i64 0,.slice none 0 0,.slice (some ⟨gR,0,none⟩) 8 8,.slice none 0 0,.int .i64 0,.bool false,.bool false,.bool false,.bool false,.bool false,.bool false,.bool false,.bool false,.slice none 0 0,.pointer (some ⟨sb,0,none⟩),.map (some km)] (v9.setCell ⟨rb,15,none⟩ (.map (some km)))):=NX.out.set (by have:=Z1.out;omega) (by have:=Z1.out;omega) (by have:=Z1.out;omega) (by have:=Z1.out;omega) (by have:=Z1.out;omega) (by have:=ZG.out;omega) 15 _;have MY:Hid (MapF (v9.setCell ⟨rb,15,none⟩ (.map (some km))) km 9 (kinK rb 0)):=MX.out.block (Below.heap_setCell _ _ _ _ (by have:=ZG.out;have:=ZK.out;show km≠rb;omega));clear NX MX;obtain⟨v10,hv10⟩:∃y,v9.setCell ⟨rb,15,none⟩ (.map (some km))=y:=⟨_,rfl⟩
 rw[hv10]at NY MY;have d14:=hp_cell NY.out.C 14;simp only[List.getElem?_toArray,List.getElem?_cons_zero,List.getElem?_cons_succ]at d14;have d1:=hp_cell NY.out.SC.S 1;simp only[List.getElem?_toArray,List.getElem?_cons_zero,List.getElem?_cons_succ]at d1;go_wp2_with fail;clear d14 d1 c15 cf hv10 hv0 hkm p1 p2 p3 p4 p5 p6 p7 p8 p9 hmk;go_loopw [3,47](fun _ j wr=>∃k:Nat,k<=28/\j=.int .i64 k/\NR w rb sb nb ob mf gR #[.int .i64 0,.slice none 0 0,.slice (some ⟨gR,0,none⟩) 8 8,.slice none 0 0,.int .i64 0,.bool false,.bool false,.bool false,.bool false,.bool false,.bool false,.bool false,.bool false,.slice none 0 0,.pointer (some ⟨sb,0,none⟩),.map (some km)] wr/\MapF wr km (9+k) (kinK rb k))(fun _ j _=>28-(intOf j).toNat)
 case atStart=>exact⟨0,Nat.zero_le _,rfl,NY.out,MY.out⟩
 case round=>
  clear NY MY;obtain⟨k,hk,rfl,n1,m1⟩:=hrel;have NN:Hid (NR w rb sb nb ob mf gR #[.int .i64 0,.slice none 0 0,.slice (some ⟨gR,0,none⟩) 8 8,.slice none 0 0,.int .i64 0,.bool false,.bool false,.bool false,.bool false,.bool false,.bool false,.bool false,.bool false,.slice none 0 0,.pointer (some ⟨sb,0,none⟩),.map (some km)] wr):=n1;have MM:Hid (MapF wr km (9+k) (kinK rb k)):=m1;clear n1 m1;by_cases hlt:k<28
  rotate_left
  ·obtain rfl:k=28:=by omega
   go_wp2_with fail;go_ret;have z:=Z1.out;refine⟨rb,sb,nb,ob,mf,km,⟨some ⟨gR,0,none⟩,8,8⟩,rfl,NN.out.b,⟨NN.out.C,?_,rfl,Inv.zero,NN.out.SC,NN.out.OA,MM.out.km,HE.out.below (NN.out.b.mono hB),by omega,forms_map NN.out.SC.M,ops_map NN.out.OA⟩⟩;exact rows_zero NN.out.G (by have:=ZG.out;omega)
  obtain⟨s,hs,hsn,hc⟩:=names_cell (show k<34 by omega);have g0:wr.cell? ⟨nb,k,none⟩=some (.string s):=(heap_cell NN.out.SC.N k).trans hc;have g2:=hp_cell NN.out.C 15;simp only[List.getElem?_toArray,List.getElem?_cons_zero,List.getElem?_cons_succ]at g2;have hl1:(k:Int)<28:=by omega
  obtain⟨t1,q1,q2,q3⟩:=MM.out.put (by omega) s (by omega) (mth 37 rb);have NX:Hid (NR w rb sb nb ob mf gR #[.int .i64 0,.slice none 0 0,.slice (some ⟨gR,0,none⟩) 8 8,.slice none 0 0,.int .i64 0,.bool false,.bool false,.bool false,.bool false,.bool false,.bool false,.bool false,.bool false,.slice none 0 0,.pointer (some ⟨sb,0,none⟩),.map (some km)] t1):=NN.out.grown q3 (by have:=Z1.out;have:=ZG.out;have:=ZK.out;omega) (by have:=Z1.out;have:=ZG.out;have:=ZK.out;omega) (by have:=Z1.out;have:=ZG.out;have:=ZK.out;omega) (by have:=Z1.out;have:=ZG.out;have:=ZK.out;omega) (by have:=Z1.out;have:=ZG.out;have:=ZK.out;omega) (by have:=Z1.out;have:=ZG.out;have:=ZK.out;omega) ZK.out;have MX:Hid (MapF t1 km (9+(k+1)) (kinK rb (k+1))):=q2.congr (fun l=>by rw[hsn];exact kinK_step rb k hlt l);simp only[mth]at q1;clear hc hsn q2 q3 MM;go_wp2_with fail;go_roundw
  case rel=>exact⟨k+1,by omega,by go_num,NX.out,MX.out⟩
  case measure=>simp[intOf];omega
end Go.Proofs.YtblfmpgdhpbffaaGreatDoor
