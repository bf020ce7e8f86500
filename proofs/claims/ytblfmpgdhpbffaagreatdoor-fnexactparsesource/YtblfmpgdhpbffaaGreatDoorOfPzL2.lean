import Derived.Test.YtblfmpgdhpbffaaGreatDoorOfPzKind
import Derived.Test.YtblfmpgdhpbffaaGreatDoorPzHeap
set_option maxHeartbeats 6400000
set_option maxRecDepth 20000
namespace Go.Proofs.YtblfmpgdhpbffaaGreatDoor
open Go.RowKit Go.Proofs
theorem info_procY:(Tryz.prog.info? 68).map (fun i=>(i.zero,i.size,i.bytes))=some (some (.agg #[.slice none 0 0]),1,24):=by kernel_rfl
theorem stB_inj{a b:List UInt8}:stB a=stB b↔a=b:=⟨fun e=>by have:=congrArg (fun b:ByteArray=>b.data.toList) e;simpa[stB]using this,fun e=>by rw[e]⟩
theorem idx2(a b l:List UInt8)(x:ByteArray)(hx:stB l=x):Lib.idxOfS ([a,b].map stB) x=if l=a then 0 else if l=b then 1 else -1:=by
 subst hx;simp only[List.map_cons,List.map_nil,Lib.idxOfS,Lib.idxFromS,stB_inj];by_cases h1:l=a
 ·subst h1;simp
 have g1:¬a=l:=fun e=>h1 e.symm
 by_cases h2:l=b
 ·subst h2;simp[h1,g1]
 have g2:¬b=l:=fun e=>h2 e.symm
 simp[h1,h2,g1,g2]
theorem idx4(a b c d l:List UInt8)(x:ByteArray)(hx:stB l=x):Lib.idxOfS ([a,b,c,d].map stB) x=if l=a then 0 else if l=b then 1 else if l=c then 2 else if l=d then 3 else -1:=by
 subst hx;simp only[List.map_cons,List.map_nil,Lib.idxOfS,Lib.idxFromS,stB_inj];by_cases h1:l=a
 ·subst h1;simp
 have g1:¬a=l:=fun e=>h1 e.symm
 by_cases h2:l=b
 ·subst h2;simp[h1,g1]
 have g2:¬b=l:=fun e=>h2 e.symm
 by_cases h3:l=c
 ·subst h3;simp[h1,g1,h2,g2]
 have g3:¬c=l:=fun e=>h3 e.symm
 by_cases h4:l=d
 ·subst h4;simp[h1,g1,h2,g2,h3,g3]
 have g4:¬d=l:=fun e=>h4 e.symm
 simp[h1,h2,h3,h4,g1,g2,g3,g4]
theorem pk_row{w:World}{B:Nat}{S:PS}{rb sb nb ob mf km:Nat}{sH sR sP sO:Sl}{bv:List Value}(h:PR w B S rb sb nb ob mf km sH sR sP sO bv):sH.n=S.hs.length/\sR.n=8/\sP.n=bv.length/\sO.n=S.op.length:=
 ⟨row_n (h.R.own 1 _ rfl),(row_n (h.R.own 2 _ rfl)).trans h.I.rg,row_n (h.R.own 3 _ rfl),row_n (h.R.own 0 _ rfl)⟩
theorem dialectLine_any(B:Nat)(S:PS)(rb sb nb ob mf km:Nat)(sH sR sP sO:Sl)(bv:List Value)(f:List (List UInt8))(fb fc:Nat)(w:World)(hB:B<=w.heap.size)(hm:PR w B S rb sb nb ob mf km sH sR sP sO bv)(hf:FA w fb f)(hl:∀i,((stB (fd f i)).size:Int)<=200000)(hbd:Bnd S 100000):
 Calls Tryz.prog 28 #[.pointer (some ⟨rb,0,none⟩),.slice (some ⟨fb,0,none⟩) f.length fc] w fun e w'=>PA B w rb sb nb ob mf km (diaS S f) e w':=by
 obtain⟨RR,hRR⟩:∃y,diaS S f=y:=⟨_,rfl⟩
 rw[hRR];have HRR:Hid (diaS S f=RR):=hRR;have M:Hid (PR w B S rb sb nb ob mf km sH sR sP sO bv):=hm;have HBD:Hid (Bnd S 100000):=hbd;have HL:Hid (∀i,((stB (fd f i)).size:Int)<=200000):=hl;have HF:Hid (FA w fb f):=hf;have hz:rb<w.heap.size:=(Array.getElem?_eq_some_iff.1 hm.C).1;have hBb:=hm.b;obtain⟨c0,c1,c2,c3,c4,c13,c14,c15,c5,cf⟩:=hm.cells;have HC5:Hid (∀k,k<8->w.cell? ⟨rb,5+k,none⟩=some (.bool (S.gv.getD k false))):=c5;clear hm hf hl hRR c5 hbd;go_enter Tryz.func28,Tryz.ntmps28;by_cases h0:S.st=0
 rotate_left
 ·have e1:((S.st:Int) !=0)=true:=by rw[bne_iff_ne];omega
  have HN:Hid (RR=none):=(by rw[<-HRR.out];unfold diaS;rw[if_neg (fun h=>h0 h.1)]:RR=none)
  clear h0;go_wp2_with fail;go_ret;rw[HN.out];exact⟨Fm.refl _ _ _,rfl,fun _ h=>(by cases h)⟩
 have e1:((S.st:Int) !=0)=false:=by rw[bne_eq_false_iff_eq];omega
 have H0:Hid (S.st=0):=h0;clear h0;by_cases h2:f.length=2
 rotate_left
 ·have e2:((f.length:Int) !=2)=true:=by rw[bne_iff_ne];omega
  have HN:Hid (RR=none):=(by rw[<-HRR.out];unfold diaS;rw[if_neg (fun h=>h2 h.2)]:RR=none)
  clear h2;go_wp2_with fail;go_ret;rw[HN.out];exact⟨Fm.refl _ _ _,rfl,fun _ h=>(by cases h)⟩
 have e2:((f.length:Int) !=2)=false:=by rw[bne_eq_false_iff_eq];omega
 have e3:(1:Int)<(f.length:Int):=by omega
 obtain⟨s1,hs1⟩:∃y,stB (fd f 1)=y:=⟨_,rfl⟩
 have HS1:Hid (stB (fd f 1)=s1):=hs1;have g1:w.cell? ⟨fb,1,none⟩=some (.string s1):=(HF.out.cell 1 (by omega)).trans (by rw[hs1]);have H2:Hid (f.length=2):=h2;clear h2 hs1;go_wp2_with fail;refine(placeIn_any ⟨#[103,97,115,32,109,97,115,109]⟩ [[103,97,115],[109,97,115,109]] s1 w M.out.E (by decide) (by decide) (by kernel_rfl) (by decide)).mono ?_;rintro e u⟨rfl,hb⟩;rw[idx2 _ _ (fd f 1) s1 HS1.out];have M1:Hid (PR u B S rb sb nb ob mf km sH sR sP sO bv):=M.out.below hb;have F1:Hid (Fm tsP B w u):=Fm.of_below hb hB;obtain⟨k0,k1,k2,k3,k4,k13,k14,k15,k5,kf⟩:=M1.out.cells;obtain⟨dn,hdn⟩:∃y:Int,(if fd f 1=[103,97,115]then(0:Int)else if fd f 1=[109,97,115,109]then 1 else -1)=y:=⟨_,rfl⟩
 rw[hdn];have HDN:Hid ((diaW (fd f 1)=some dn/\(dn=0∨dn=1))∨(diaW (fd f 1)=none/\dn= -1)):=(by
  rw[<-hdn];unfold diaW;split
  ·exact .inl ⟨rfl,.inl rfl⟩
  ·split
   ·exact .inl ⟨rfl,.inr rfl⟩
   ·exact .inr ⟨rfl,rfl⟩:(diaW (fd f 1)=some dn/\(dn=0∨dn=1))∨(diaW (fd f 1)=none/\dn= -1))
 clear hdn hb c0 c1 c2 c3 c4 c13 c14 c15 cf g1 k5;go_upto_region 5 with fail;have f2:Fm tsP B u ((u.setCell ⟨rb,0,none⟩ (.int .i64 dn)).setCell ⟨rb,4,none⟩ (.int .i64 1)):=(Fm.of_set (a:=⟨rb,0,none⟩) M1.out.C (by decide) M1.out.b _).trans (Fm.of_set (a:=⟨rb,4,none⟩) (heap_setZ M1.out.C 0 _) (by decide) M1.out.b _);have F2:Hid (Fm tsP B w ((u.setCell ⟨rb,0,none⟩ (.int .i64 dn)).setCell ⟨rb,4,none⟩ (.int .i64 1))):=F1.out.trans f2;have q0:((u.setCell ⟨rb,0,none⟩ (.int .i64 dn)).setCell ⟨rb,4,none⟩ (.int .i64 1)).cell? ⟨rb,0,none⟩=some (.int .i64 dn):=by simp[go_sem,k0]
 clear f2;rcases HDN.out with⟨hd,hd01⟩|⟨hd,rfl⟩
 ·have HN:Hid (RR=some {S with d:=dn,st:=1}):=(by rw[<-HRR.out];unfold diaS;rw[if_pos ⟨H0.out,H2.out⟩,hd];rfl:RR=some {S with d:=dn,st:=1})
  have M2:Hid (PR ((u.setCell ⟨rb,0,none⟩ (.int .i64 dn)).setCell ⟨rb,4,none⟩ (.int .i64 1)) B {S with d:=dn,st:=1} rb sb nb ob mf km sH sR sP sO bv):=(by
   obtain⟨m2,f2⟩:=PR.set (S':={S with d:=dn}) M1.out.C (rcL_set0 S sH sR sP sO sb km dn) M1.out.R M1.out.L ⟨M1.out.I.st,hd01,M1.out.I.hs,M1.out.I.rg,M1.out.I.gv,M1.out.I.ps,M1.out.I.op,M1.out.I.ol,M1.out.I.od⟩ M1.out.pk;exact(PR.set (S':={S with d:=dn,st:=1}) m2.C (rcL_set4 _ sH sR sP sO sb km 1) m2.R m2.L ⟨by show 1<=3;omega,hd01,m2.I.hs,m2.I.rg,m2.I.gv,fun e=>absurd e (by show¬1=3;omega),fun _=>M1.out.I.op (by have:=H0.out;omega),m2.I.ol,m2.I.od⟩ m2.pk).1:PR ((u.setCell ⟨rb,0,none⟩ (.int .i64 dn)).setCell ⟨rb,4,none⟩ (.int .i64 1)) B {S with d:=dn,st:=1} rb sb nb ob mf km sH sR sP sO bv)
  have e5:0<=dn:=by omega
  clear hd hd01 k0 k1 k2 k3 k4 k13 k14 k15 kf M1 F1;generalize(u.setCell ⟨rb,0,none⟩ (.int .i64 dn)).setCell ⟨rb,4,none⟩ (.int .i64 1)=u2 at F2 q0 M2⊢;go_wp2_with fail;go_ret;rw[HN.out];exact⟨F2.out,rfl,fun _ h=>by cases h;exact⟨_,_,_,_,_,M2.out⟩⟩
 ·have HN:Hid (RR=none):=(by rw[<-HRR.out];unfold diaS;rw[if_pos ⟨H0.out,H2.out⟩,hd];rfl:RR=none)
  clear hd k0 k1 k2 k3 k4 k13 k14 k15 kf M1 F1;generalize(u.setCell ⟨rb,0,none⟩ (.int .i64 (-1))).setCell ⟨rb,4,none⟩ (.int .i64 1)=u2 at F2 q0⊢;go_wp2_with fail;go_ret;rw[HN.out];exact⟨F2.out,rfl,fun _ h=>(by cases h)⟩
theorem procLine_any(B:Nat)(S:PS)(rb sb nb ob mf km:Nat)(sH sR sP sO:Sl)(bv:List Value)(f:List (List UInt8))(fb fc:Nat)(w:World)(_hB:B<=w.heap.size)(hm:PR w B S rb sb nb ob mf km sH sR sP sO bv)(hf:FA w fb f)(hl:∀i,((stB (fd f i)).size:Int)<=200000)(hbd:Bnd S 100000):
 Calls Tryz.prog 31 #[.pointer (some ⟨rb,0,none⟩),.slice (some ⟨fb,0,none⟩) f.length fc] w fun e w'=>PA B w rb sb nb ob mf km (procS S f) e w':=by
 obtain⟨RR,hRR⟩:∃y,procS S f=y:=⟨_,rfl⟩
 rw[hRR];have HRR:Hid (procS S f=RR):=hRR;have M:Hid (PR w B S rb sb nb ob mf km sH sR sP sO bv):=hm;have HBD:Hid (Bnd S 100000):=hbd;have HL:Hid (∀i,((stB (fd f i)).size:Int)<=200000):=hl;have HF:Hid (FA w fb f):=hf;have hz:rb<w.heap.size:=(Array.getElem?_eq_some_iff.1 hm.C).1;have hBb:=hm.b;obtain⟨c0,c1,c2,c3,c4,c13,c14,c15,c5,cf⟩:=hm.cells;have HC5:Hid (∀k,k<8->w.cell? ⟨rb,5+k,none⟩=some (.bool (S.gv.getD k false))):=c5;clear hm hf hl hRR c5 hbd;go_enter Tryz.func31,Tryz.ntmps31;by_cases h0:S.st=0
 ·have e1:((S.st:Int)==0)=true:=by rw[beq_iff_eq];omega
  have HN:Hid (RR=none):=(by rw[<-HRR.out];unfold procS;rw[if_neg (fun h=>h.1 h0)]:RR=none)
  clear h0;go_wp2_with fail;go_ret;rw[HN.out];exact⟨Fm.refl _ _ _,rfl,fun _ h=>(by cases h)⟩
 have e1:((S.st:Int)==0)=false:=by rw[beq_eq_false_iff_ne];omega
 have HNO:Hid (sO.n=S.op.length):=(pk_row M.out).2.2.2;by_cases h3:S.op=[]
 rotate_left
 ·have e3:(0:Int)<(sO.n:Int):=by
   have h1:S.op.length≠0:=fun e=>h3 (List.length_eq_zero_iff.1 e)
   have:=HNO.out;omega
  have HN:Hid (RR=none):=(by rw[<-HRR.out];unfold procS;rw[if_neg (fun h=>h3 h.2.1)]:RR=none)
  clear h3;go_wp2_with fail;go_ret;rw[HN.out];exact⟨Fm.refl _ _ _,rfl,fun _ h=>(by cases h)⟩
 have e3:¬(0:Int)<(sO.n:Int):=by have:=HNO.out;rw[h3]at this;simp at this;omega
 by_cases h2:f.length=1
 rotate_left
 ·have e2:((f.length:Int) !=1)=true:=by rw[bne_iff_ne];omega
  have HN:Hid (RR=none):=(by rw[<-HRR.out];unfold procS;rw[if_neg (fun h=>h2 h.2.2)]:RR=none)
  clear h2;go_wp2_with fail;go_ret;rw[HN.out];exact⟨Fm.refl _ _ _,rfl,fun _ h=>(by cases h)⟩
 have e2:((f.length:Int) !=1)=false:=by rw[bne_eq_false_iff_eq];omega
 have HN:Hid (RR=some {S with st:=3,ps:=S.ps++[[]]}):=(by rw[<-HRR.out];unfold procS;rw[if_pos ⟨h0,h3,h2⟩]:RR=some {S with st:=3,ps:=S.ps++[[]]})
 have H3:Hid (S.op=[]):=h3;have hbl6:bv.length<=1000000:=by have:=M.out.L;have:=HBD.out.ps;omega
 clear h0 h2 h3;obtain⟨iS,gS,gS0,gS1,gS2⟩:=info4 info_procY;have HIS:Hid (_/\_/\_/\_):=⟨gS,gS0,gS1,gS2⟩
 clear gS gS0 gS1 gS2;go_upto_region 4 with fail;obtain⟨u3,hu3,f3,hc3,r3,k3'⟩:∃y,w.setCell ⟨rb,4,none⟩ (.int .i64 3)=y/\Fm tsP B w y/\y.heap[rb]?=some (.cells (rcL {S with st:=3} sH sR sP sO sb km).toArray 60)/\Rws y B (srcR (exP S (.slice sO.a sO.n sO.c)) S.hs S.rg (ppl S) (.slice sH.a sH.n sH.c) (.slice sR.a sR.n sR.c) (.slice sP.a sP.n sP.c) bv)/\PK y B rb sb nb ob mf km:=by
  have f:Fm tsP B w (w.setCell ⟨rb,4,none⟩ (.int .i64 3)):=Fm.of_set (a:=⟨rb,4,none⟩) M.out.C (by decide) M.out.b _;exact⟨_,rfl,f,(heap_setZ M.out.C 4 _).trans (congrArg (fun a=>some (Obj.cells a 60 (0,0))) (rcL_set4 S sH sR sP sO sb km 3)),rows_setR M.out.R srcR_ne M.out.C 4 _,M.out.pk.fm f⟩
 rw[hu3];have F3:Hid (Fm tsP B w u3):=f3;have C3:Hid (u3.heap[rb]?=some (.cells (rcL {S with st:=3} sH sR sP sO sb km).toArray 60)):=hc3;have R3:Hid (Rws u3 B (srcR (exP S (.slice sO.a sO.n sO.c)) S.hs S.rg (ppl S) (.slice sH.a sH.n sH.c) (.slice sR.a sR.n sR.c) (.slice sP.a sP.n sP.c) bv)):=r3;have K3:Hid (PK u3 B rb sb nb ob mf km):=k3';have hBu3:B<=u3.heap.size:=by have:=f3.b.size;omega
 have q3:u3.cell? ⟨rb,3,none⟩=some (.slice sP.a sP.n sP.c):=hp_cell hc3 3;have qf:=hp_frz hc3;have OA:Hid ((u3.alloc (.cells #[.slice none 0 0] 68)).ownsRow B 68 1 (.slice sP.a sP.n sP.c) bv.length bv):=row_belowZ (r3.own 3 _ rfl) (fun k hk=>((Below.refl u3.heap.size u3).alloc (Nat.le_refl _) _).block k ((r3.own 3 _ rfl).lt k hk).2);have HCL:Hid (∀j u,[Value.slice none 0 0][j]?=some u->(u3.alloc (.cells #[.slice none 0 0] 68)).cell? ((⟨u3.heap.size,0,none⟩:Addr).add j)=some u):=cells_newZ u3 #[.slice none 0 0] 68;have hBa:B<=(u3.alloc (.cells #[.slice none 0 0] 68)).heap.size:=by simp;omega
 clear hu3 f3 hc3 r3 k3' c0 c1 c2 c3 c4 c13 c14 c15 cf;go_wp2_with(first|(at_builtin;refine wpList_append_own_at _ rfl _ _ 27 rfl B 68 iS _ 1 24 Tryz.underlying27 HIS.out.1 HIS.out.2.1 HIS.out.2.2.1 HIS.out.2.2.2 rfl (by decide) (.slice sP.a sP.n sP.c) bv.length _ rfl OA.out ⟨u3.heap.size,0,none⟩ 1 1 [.slice none 0 0] rfl rfl HCL.out ?c2 ?c3 ?c4 hBa ?_))
 case c2=>simp[Value.oneCell']
 case c3=>unfold maxLen;omega
 case c4=>omega
 intro v' w5 hown hgrow _ hat;obtain⟨ao5,cz5,hv5⟩:=row_sliceZ hown;subst hv5;obtain⟨ua,hua,hba⟩:∃y,u3.alloc (.cells #[.slice none 0 0] 68)=y/\Below u3.heap.size u3 y:=⟨_,rfl,(Below.refl _ _).alloc (Nat.le_refl _) _⟩
 rw[hua]at hgrow OA;have hza:ua.heap.size<=u3.heap.size+1:=by rw[<-hua];simp
 have RA:=R3.out.below hba;have f5:Fm tsP B ua w5:=Fm.of_grow OA.out (Nat.le_refl _) hgrow (by have:=hba.size;omega) (by decide);have fA:Fm tsP B u3 ua:=Fm.of_below hba hBu3;have r5:=RA.proc (by rw[ppl_len];exact M.out.L) hgrow hown (hat.elim .inl (fun e=>.inr ⟨_,e,hza⟩));have hrb:rb<u3.heap.size:=(Array.getElem?_eq_some_iff.1 C3.out).1;have c5:w5.heap[rb]?=some (.cells (rcL {S with st:=3} sH sR sP sO sb km).toArray 60):=by
  refine(hgrow.block rb (Nat.lt_of_lt_of_le hrb hba.size) (fun e=>?_)).trans ((hba.block rb hrb).trans C3.out);rcases OA.out.2 with⟨h',_⟩|⟨g',cap,cur,h',_,hh,_⟩
  ·rw[h']at e;cases e
  ·rw[h']at e
   have e2:rb=g':=Option.some.inj e;subst e2;rw[hba.block rb hrb,C3.out]at hh;exact absurd (Obj.cells.inj (Option.some.inj hh)).2.1 (by decide)
 have R5:Hid (Rws w5 B (srcR (exP {S with st:=3,ps:=S.ps++[[]]} (.slice sO.a sO.n sO.c)) S.hs S.rg (ppl {S with st:=3,ps:=S.ps++[[]]}) (.slice sH.a sH.n sH.c) (.slice sR.a sR.n sR.c) (.slice ao5 (bv.length+1) cz5) (bv++[.slice none 0 0]))):=(by
  rw[ppl_closed (S:={S with st:=3,ps:=S.ps++[[]]}) H3.out];rw[ppl_closed H3.out]at r5;exact r5:Rws w5 B (srcR (exP {S with st:=3,ps:=S.ps++[[]]} (.slice sO.a sO.n sO.c)) S.hs S.rg (ppl {S with st:=3,ps:=S.ps++[[]]}) (.slice sH.a sH.n sH.c) (.slice sR.a sR.n sR.c) (.slice ao5 (bv.length+1) cz5) (bv++[.slice none 0 0])))
 have C5:Hid (w5.heap[rb]?=some (.cells (rcL {S with st:=3} sH sR sP sO sb km).toArray 60)):=c5;have K5:Hid (PK w5 B rb sb nb ob mf km):=(K3.out.fm fA).fm f5;have F5:Hid (Fm tsP B w w5):=(F3.out.trans fA).trans f5;have y3:w5.cell? ⟨rb,3,none⟩=some (.slice sP.a sP.n sP.c):=hp_cell c5 3;have yf:=hp_frz c5;clear hua hba hza hgrow hat OA RA f5 fA r5 HCL hBa R3 C3 K3 F3 c5 hown HIS q3 qf hrb;go_upto_region 5 with fail;obtain⟨m6,f6⟩:=PR.set (S':={S with st:=3,ps:=S.ps++[[]]}) (sH':=sH) (sR':=sR) (sP':=⟨ao5,bv.length+1,cz5⟩) (sO':=sO) C5.out (rcL_set3 {S with st:=3} {S with st:=3,ps:=S.ps++[[]]} sH sR sP sO ⟨ao5,bv.length+1,cz5⟩ sb km rfl rfl rfl) R5.out (by rw[List.length_append,List.length_append,M.out.L];rfl) ⟨by show 3<=3;omega,M.out.I.d,M.out.I.hs,M.out.I.rg,M.out.I.gv,fun _=>by simp,fun e=>absurd rfl e,fun q hq=>(by have h9:q∈S.op:=hq;rw[H3.out]at h9;exact absurd h9 List.not_mem_nil),M.out.I.od⟩ K5.out;have M6:Hid _:=m6;have F6:Hid _:=F5.out.trans f6;clear m6 f6 y3 yf;go_wp2_with fail;go_ret;rw[HN.out];exact⟨F6.out,rfl,fun _ h=>by cases h;exact⟨_,_,_,_,_,M6.out⟩⟩
theorem sec_place(l:List UInt8):let sv:Int:=(if l=[112,117,98,108,105,99]then 0 else if l=[115,101,99,114,101,116]then 1 else -1);(0<=sv/\secW l=some (sv==1))∨(sv= -1/\secW l=none):=by
 unfold secW;simp only;split
 ·exact .inl ⟨by omega,rfl⟩
 ·split
  ·exact .inl ⟨by omega,rfl⟩
  ·exact .inr ⟨rfl,rfl⟩
theorem wrt_place(l:List UInt8):let sv:Int:=(if l=[114,101,97,100]then 0 else if l=[119,114,105,116,101]then 1 else -1);(0<=sv/\wrtW l=some (sv==1))∨(sv= -1/\wrtW l=none):=by
 unfold wrtW;simp only;split
 ·exact .inl ⟨by omega,rfl⟩
 ·split
  ·exact .inl ⟨by omega,rfl⟩
  ·exact .inr ⟨rfl,rfl⟩
theorem heap_unf(S:PS)(f:List (List UInt8))(h1:S.st=1)(h2:f.length=4)(h3:S.hs.length≠8):heapS S f=match numW false (fd f 1),secW (fd f 2),wrtW (fd f 3)with|some a,some b,some c=>some {S with hs:=S.hs++[⟨a,b,c⟩]}|_,_,_=>none:=by
 unfold heapS;rw[if_pos ⟨h1,h2,h3⟩];cases numW false (fd f 1)<;>cases secW (fd f 2)<;>cases wrtW (fd f 3)<;>rfl
theorem keep_c{w w':World}{B rb e z n:Nat}{v:Value}{xs:List Value}{cs:Array Value}(hc:w.heap[rb]?=some (.cells cs 60))(ho:w.ownsRow B e z v n xs)(he:e≠60)(hg:w.grownBy w' v.ownBlock):w'.heap[rb]?=some (.cells cs 60):=by
 refine(hg.block rb (Array.getElem?_eq_some_iff.1 hc).1 (fun q=>?_)).trans hc;rcases ho.2 with⟨h',_⟩|⟨g',cap,cur,h',_,hh,_⟩
 ·rw[h']at q;cases q
 ·rw[h']at q
  have e2:rb=g':=Option.some.inj q;subst e2;rw[hc]at hh;exact he (Obj.cells.inj (Option.some.inj hh)).2.1.symm
theorem heapLine_any(B:Nat)(S:PS)(rb sb nb ob mf km:Nat)(sH sR sP sO:Sl)(bv:List Value)(f:List (List UInt8))(fb fc:Nat)(w:World)(hB:B<=w.heap.size)(hm:PR w B S rb sb nb ob mf km sH sR sP sO bv)(hf:FA w fb f)(hl:∀i,((stB (fd f i)).size:Int)<=200000)(hbd:Bnd S 100000):
 Calls Tryz.prog 29 #[.pointer (some ⟨rb,0,none⟩),.slice (some ⟨fb,0,none⟩) f.length fc] w fun e w'=>PA B w rb sb nb ob mf km (heapS S f) e w':=by
 obtain⟨RR,hRR⟩:∃y,heapS S f=y:=⟨_,rfl⟩
 rw[hRR]
 have HRR:Hid (heapS S f=RR):=hRR
 have M:Hid (PR w B S rb sb nb ob mf km sH sR sP sO bv):=hm
 have HBD:Hid (Bnd S 100000):=hbd
 have HL:Hid (∀i,((stB (fd f i)).size:Int)<=200000):=hl
 have HF:Hid (FA w fb f):=hf
 have hz:rb<w.heap.size:=(Array.getElem?_eq_some_iff.1 hm.C).1
 have hBb:=hm.b
 obtain⟨c0,c1,c2,c3,c4,c13,c14,c15,c5,cf⟩:=hm.cells
 have HC5:Hid (∀k,k<8->w.cell? ⟨rb,5+k,none⟩=some (.bool (S.gv.getD k false))):=c5
 clear hm hf hl hRR c5 hbd
 go_enter Tryz.func29,Tryz.ntmps29
 have HNH:Hid (sH.n=S.hs.length):=(pk_row M.out).1
 by_cases h0:S.st=1
 rotate_left
 ·have e1:((S.st:Int) !=1)=true:=by rw[bne_iff_ne];omega
  have HN:Hid (RR=none):=(by rw[<-HRR.out];unfold heapS;rw[if_neg (fun h=>h0 h.1)]:RR=none)
  clear h0
  go_wp2_with fail
  go_ret
  rw[HN.out]
  exact⟨Fm.refl _ _ _,rfl,fun _ h=>(by cases h)⟩
 have e1:((S.st:Int) !=1)=false:=by rw[bne_eq_false_iff_eq];omega
 have H0:Hid (S.st=1):=h0
 clear h0
 by_cases h2:f.length=4
 rotate_left
 ·have e2:((f.length:Int) !=4)=true:=by rw[bne_iff_ne];omega
  have HN:Hid (RR=none):=(by rw[<-HRR.out];unfold heapS;rw[if_neg (fun h=>h2 h.2.1)]:RR=none)
  clear h2
  go_wp2_with fail
  go_ret
  rw[HN.out]
  exact⟨Fm.refl _ _ _,rfl,fun _ h=>(by cases h)⟩
 have e2:((f.length:Int) !=4)=false:=by rw[bne_eq_false_iff_eq];omega
 have e4:(1:Int)<(f.length:Int):=by omega
 have e5:(2:Int)<(f.length:Int):=by omega
 have e6:(3:Int)<(f.length:Int):=by omega
 have h2z:3<f.length:=by omega
 have H2:Hid (f.length=4):=h2
 clear h2
 by_cases h3:S.hs.length=8
 ·have e3:((sH.n:Int)==8)=true:=by rw[beq_iff_eq];have:=HNH.out;omega
  have HN:Hid (RR=none):=(by rw[<-HRR.out];unfold heapS;rw[if_neg (fun h=>h.2.2 h3)]:RR=none)
  clear h3
  go_wp2_with fail
  go_ret
  rw[HN.out]
  exact⟨Fm.refl _ _ _,rfl,fun _ h=>(by cases h)⟩
 have e3:((sH.n:Int)==8)=false:=by rw[beq_eq_false_iff_ne];have:=HNH.out;omega
 have H3:Hid (S.hs.length≠8):=h3
 clear h3
 obtain⟨s1,hs1⟩:∃y,stB (fd f 1)=y:=⟨_,rfl⟩
 obtain⟨s2,hs2⟩:∃y,stB (fd f 2)=y:=⟨_,rfl⟩
 obtain⟨s3,hs3⟩:∃y,stB (fd f 3)=y:=⟨_,rfl⟩
 have HS2:Hid (stB (fd f 2)=s2):=hs2
 have HS3:Hid (stB (fd f 3)=s3):=hs3
 have g1:w.cell? ⟨fb,1,none⟩=some (.string s1):=(HF.out.cell 1 (by omega)).trans (by rw[hs1])
 have hz1:(s1.size:Int)<=200000:=by rw[<-hs1];exact HL.out 1
 have HW:Hid (rdNum 0 s1.data.toList=numW false (fd f 1)):=(by rw[<-hs1,show(0:Int)=(if false=true then -9999999999999 else 0)from rfl,rdNum_same];simp[stB]:rdNum 0 s1.data.toList=numW false (fd f 1))
 clear hs1 hs2 hs3
 go_wp2_with fail
 refine(readNumber_any s1 0 w M.out.E hB hz1).mono ?_
 rintro e u⟨j,rfl,hj,hb⟩
 rw[HW.out]at hj⊢
 have M1:Hid (PR u B S rb sb nb ob mf km sH sR sP sO bv):=M.out.below hb
 have F1:Hid (Fm tsP B w u):=Fm.of_below hb hB
 have A1:Hid (FA u fb f):=HF.out.below hb
 have hBu:B<=u.heap.size:=by have:=hb.size;omega
 have HJ:Hid (∀v,numW false (fd f 1)=some v->j=v):=hj
 obtain⟨bo,hbo⟩:∃y,(numW false (fd f 1)).isSome=y:=⟨_,rfl⟩
 have HBO:Hid ((numW false (fd f 1)).isSome=bo):=hbo
 rw[hbo]
 clear hb hj hbo c0 c1 c2 c3 c4 c13 c14 c15 cf g1
 go_upto_region 4 with fail
 have r2:∀w':World,Below u.heap.size u w'->w'.cell? ⟨fb,2,none⟩=some (.string s2):=fun w' h=>((A1.out.below h).cell 2 (by omega)).trans (by rw[HS2.out])
 have r3:∀w':World,Below u.heap.size u w'->w'.cell? ⟨fb,3,none⟩=some (.string s3):=fun w' h=>((A1.out.below h).cell 3 (by omega)).trans (by rw[HS3.out])
 refine wp_region_held_drew (S:=fun w'=>Below u.heap.size u w') (by kernel_rfl) (Below.refl _ _).drew (fun hHeld=>?_)
 generalize u.drew=t0 at hHeld⊢
 refine wpAnyH_tk 0 ?k1v rfl ?k1y ?k1r
 case k1y=>(intro w hSw;(try dsimp only at hSw);go_simp;try with_reducible rfl)
 try go_frame
 refine wpAnyH_tk 1 ?k2v rfl ?k2y ?k2r
 case k2y=>(intro w hSw;(try dsimp only at hSw);go_simp;try with_reducible rfl)
 try go_frame
 refine wpAnyH_tk 2 ?k3v rfl ?k3y ?k3r
 case k3y=>(intro w hSw;(try dsimp only at hSw);go_simp;try with_reducible rfl)
 try go_frame
 refine wpAnyH_tk 4 ?k4v rfl ?k4y ?k4r
 case k4y=>(intro w hSw;(try dsimp only at hSw);go_simp;try with_reducible rfl)
 try go_frame
 refine wpAnyH_tk 5 ?k5v rfl ?k5y ?k5r
 case k5y=>(intro w hSw;(try dsimp only at hSw);go_simp;try with_reducible rfl)
 try go_frame
 refine wpAnyH_tk 6 ?k6v rfl ?k6y ?k6r
 case k6y=>(intro w hSw;(try dsimp only at hSw);go_simp;try with_reducible rfl)
 try go_frame
 refine wpAnyH_ready (rs:=[3]) (by kernel_rfl) (by simp) ?_
 refine AllReadyH.cons rfl (fun KK hK=>?_) AllReadyH.nil
 go_simp
 refine(placeIn_any ⟨#[112,117,98,108,105,99,32,115,101,99,114,101,116]⟩ [[112,117,98,108,105,99],[115,101,99,114,101,116]] s2 t0 (M1.out.below hHeld).E (by decide) (by decide) (by kernel_rfl) (by decide)).mono ?_
 rintro e t1⟨rfl,hb1⟩
 rw[idx2 _ _ (fd f 2) s2 HS2.out]
 obtain⟨sv,hsv⟩:∃y:Int,(if fd f 2=[112,117,98,108,105,99]then(0:Int)else if fd f 2=[115,101,99,114,101,116]then 1 else -1)=y:=⟨_,rfl⟩
 have HSV:Hid ((0<=sv/\secW (fd f 2)=some (sv==1))∨(sv= -1/\secW (fd f 2)=none)):=(by have h:=sec_place (fd f 2);simp only at h;rw[hsv]at h;exact h:(0<=sv/\secW (fd f 2)=some (sv==1))∨(sv= -1/\secW (fd f 2)=none))
 rw[hsv]
 have hB1:Below u.heap.size u t1:=hHeld.trans (hb1.mono hHeld.size)
 clear hsv hb1
 refine hK.out _ _ hB1 (fun hHeld1=>?_)
 clear hK KK
 refine wpAnyH_ready (rs:=[7]) (by kernel_rfl) (by simp) ?_
 refine AllReadyH.cons rfl (fun KK hK=>?_) AllReadyH.nil
 go_simp
 refine(placeIn_any ⟨#[114,101,97,100,32,119,114,105,116,101]⟩ [[114,101,97,100],[119,114,105,116,101]] s3 t1 (M1.out.below hB1).E (by decide) (by decide) (by kernel_rfl) (by decide)).mono ?_
 rintro e t2⟨rfl,hb2⟩
 rw[idx2 _ _ (fd f 3) s3 HS3.out]
 obtain⟨wv,hwv⟩:∃y:Int,(if fd f 3=[114,101,97,100]then(0:Int)else if fd f 3=[119,114,105,116,101]then 1 else -1)=y:=⟨_,rfl⟩
 have HWV:Hid ((0<=wv/\wrtW (fd f 3)=some (wv==1))∨(wv= -1/\wrtW (fd f 3)=none)):=(by have h:=wrt_place (fd f 3);simp only at h;rw[hwv]at h;exact h:(0<=wv/\wrtW (fd f 3)=some (wv==1))∨(wv= -1/\wrtW (fd f 3)=none))
 rw[hwv]
 have hB2:Below u.heap.size u t2:=hB1.trans (hb2.mono hB1.size)
 clear hwv hb2
 refine hK.out _ _ hB2 (fun hHeld2=>?_)
 clear hK KK
 refine wpAnyH_tk 8 ?k7v rfl ?k7y ?k7r
 case k7y=>(intro w hSw;(try dsimp only at hSw);go_simp;try with_reducible rfl)
 try go_frame
 refine wpAnyH_tk 9 ?k8v rfl ?k8y ?k8r
 case k8y=>(intro w hSw;(try dsimp only at hSw);go_simp;try with_reducible rfl)
 try go_frame
 refine wpAnyH_done (by kernel_rfl) ?_ _
 have M2:Hid (PR t2 B S rb sb nb ob mf km sH sR sP sO bv):=M1.out.below hB2
 have F2:Hid (Fm tsP B w t2):=F1.out.below hB2 hBu
 have hBt2:B<=t2.heap.size:=by have:=hB2.size;omega
 clear hHeld hHeld1 hHeld2 hB1 hB2 r2 r3 M1 F1 A1
 go_upto_region 6 with fail
 obtain⟨b1,hb1⟩:∃y,(sv==1)=y:=⟨_,rfl⟩
 obtain⟨b2,hb2⟩:∃y,(wv==1)=y:=⟨_,rfl⟩
 rw[hb1]at HSV⊢
 rw[hb2]at HWV⊢
 clear hb1 hb2
 obtain⟨u3,hu3,hb3,hc3⟩:∃y,t2.alloc (.cells #[.int .i64 j,.bool b1,.bool b2] 88)=y/\Below t2.heap.size t2 y/\Cl y t2.heap.size [.int .i64 j,.bool b1,.bool b2]:=⟨_,rfl,(Below.refl _ _).alloc (Nat.le_refl _) _,Cl.new⟩
 rw[hu3]
 obtain⟨xb,hxb⟩:∃y,t2.heap.size=y:=⟨_,rfl⟩
 rw[hxb]at hc3⊢
 have OLT:Hid (∀k,(Value.slice sH.a sH.n sH.c).ownBlock=some k->k<xb):=(fun k hk=>by have:=(M2.out.R.own 1 _ rfl).lt k hk;omega:∀k,(Value.slice sH.a sH.n sH.c).ownBlock=some k->k<xb)
 have M3:Hid (PR u3 B S rb sb nb ob mf km sH sR sP sO bv):=M2.out.below hb3
 have F3:Hid (Fm tsP B w u3):=F2.out.below hb3 hBt2
 have hB3:B<=u3.heap.size:=by have:=hb3.size;omega
 have TD:u3.drew.heap[rb]?=some (.cells (rcL S sH sR sP sO sb km).toArray 60)/\Cl u3.drew xb [.int .i64 j,.bool b1,.bool b2]:=⟨M3.out.C,hc3.below (Below.refl _ _).drew⟩
 have MD:Hid (PR u3.drew B S rb sb nb ob mf km sH sR sP sO bv):=M3.out.below (Below.refl _ _).drew
 have FD:Hid (Fm tsP B w u3.drew):=F3.out.below (Below.refl _ _).drew hB3
 have hBd:B<=u3.drew.heap.size:=hB3
 have q0:∀w':World,(w'.heap[rb]?=some (.cells (rcL S sH sR sP sO sb km).toArray 60)/\Cl w' xb [.int .i64 j,.bool b1,.bool b2])->w'.cell? ⟨rb,1,none⟩=some (.slice sH.a sH.n sH.c):=fun w' h=>hp_cell h.1 1
 have q1:∀w':World,(w'.heap[rb]?=some (.cells (rcL S sH sR sP sO sb km).toArray 60)/\Cl w' xb [.int .i64 j,.bool b1,.bool b2])->w'.cell? ⟨xb,0,none⟩=some (.int .i64 j):=fun w' h=>h.2.2 0 (by simp)
 have q2:∀w':World,(w'.heap[rb]?=some (.cells (rcL S sH sR sP sO sb km).toArray 60)/\Cl w' xb [.int .i64 j,.bool b1,.bool b2])->w'.cell? ⟨xb,1,none⟩=some (.bool b1):=fun w' h=>h.2.2 1 (by simp)
 have q3:∀w':World,(w'.heap[rb]?=some (.cells (rcL S sH sR sP sO sb km).toArray 60)/\Cl w' xb [.int .i64 j,.bool b1,.bool b2])->w'.cell? ⟨xb,2,none⟩=some (.bool b2):=fun w' h=>h.2.2 2 (by simp)
 obtain⟨iS,gS,gS0,gS1,gS2⟩:=info4 info_heap
 have HIS:Hid (_/\_/\_/\_):=⟨gS,gS0,gS1,gS2⟩
 have hs8:S.hs.length<=8:=M3.out.I.hs
 clear gS gS0 gS1 gS2 hu3 hb3 hc3 hxb M2 F2
 refine wp_region_L (T:=fun w'=>w'.heap[rb]?=some (.cells (rcL S sH sR sP sO sb km).toArray 60)/\Cl w' xb [.int .i64 j,.bool b1,.bool b2]) (s:=14) (by kernel_rfl) TD (fun hHeld=>?_)
 clear TD M3 F3
 generalize u3.drew=t4 at hHeld MD FD hBd⊢
 refine wpAnyL_tk 0 ?k9v rfl ?k9y ?k9r
 case k9y=>(intro w hSw;(try dsimp only at hSw);go_simp;try with_reducible rfl)
 try go_frame
 refine wpAnyL_tk 1 ?k10v rfl ?k10y ?k10r
 case k10y=>(intro w hSw;(try dsimp only at hSw);go_simp;try with_reducible rfl)
 try go_frame
 refine wpAnyL_tk 2 ?k11v rfl ?k11y ?k11r
 case k11y=>(intro w hSw;(try dsimp only at hSw);go_simp;try with_reducible rfl)
 try go_frame
 refine wpAnyL_tk 3 ?k12v rfl ?k12y ?k12r
 case k12y=>(intro w hSw;(try dsimp only at hSw);go_simp;try with_reducible rfl)
 try go_frame
 refine wpAnyL_tk 4 ?k13v rfl ?k13y ?k13r
 case k13y=>(intro w hSw;(try dsimp only at hSw);go_simp;try with_reducible rfl)
 try go_frame
 refine wpAnyL_tk 5 ?k14v rfl ?k14y ?k14r
 case k14y=>(intro w hSw;(try dsimp only at hSw);go_simp;try with_reducible rfl)
 try go_frame
 refine wpAnyL_tk 6 ?k15v rfl ?k15y ?k15r
 case k15y=>(intro w hSw;(try dsimp only at hSw);go_simp;try with_reducible rfl)
 try go_frame
 refine wpAnyL_tk 7 ?k16v rfl ?k16y ?k16r
 case k16y=>(intro w hSw;(try dsimp only at hSw);go_simp;try with_reducible rfl)
 try go_frame
 refine wpAnyL_call (i:=8) rfl (by kernel_rfl) (fun KK hK=>?_)
 go_simp
 obtain⟨t5,ht5,hbA,hnw⟩:∃y,t4.alloc (.cells #[.int .i64 j,.bool b1,.bool b2] 88)=y/\Below t4.heap.size t4 y/\(∀i u,(hsL ⟨j,b1,b2⟩)[i]?=some u->y.cell? ((⟨t4.heap.size,0,none⟩:Addr).add i)=some u):=⟨_,rfl,(Below.refl _ _).alloc (Nat.le_refl _) _,cells_newZ _ _ _⟩
 rw[ht5]
 have ME:Hid (PR t5 B S rb sb nb ob mf km sH sR sP sO bv):=MD.out.below hbA
 have FE:Hid (Fm tsP B w t5):=FD.out.below hbA hBd
 have TE:t5.heap[rb]?=some (.cells (rcL S sH sR sP sO sb km).toArray 60)/\Cl t5 xb [.int .i64 j,.bool b1,.bool b2]:=⟨ME.out.C,hHeld.2.below hbA⟩
 have hBe:B<=t5.heap.size:=by have:=hbA.size;omega
 have NW:Hid _:=hnw
 clear ht5 hbA hnw MD FD
 refine hK.out _ _ TE (fun hHeld1=>?_)
 clear hK KK
 try go_frame
 have OH:Hid (t5.ownsRow B 88 3 (.slice sH.a sH.n sH.c) S.hs.length (S.hs.flatMap hsL)):=ME.out.R.own 1 _ rfl
 obtain⟨v',w5,hrun,hown,hgrow,_,hat⟩:=run_append_own_at (P:=Tryz.prog) t5 B 23 23 88 iS _ 3 16 Tryz.underlying23 HIS.out.1 HIS.out.2.1 HIS.out.2.2.1 HIS.out.2.2.2 rfl (by decide) (.slice sH.a sH.n sH.c) S.hs.length (S.hs.flatMap hsL) OH.out ⟨t4.heap.size,0,none⟩ 1 1 (hsL ⟨j,b1,b2⟩) rfl NW.out (by simp[hsL,Value.oneCell']) (by unfold maxLen;omega) (by omega) hBe
 have f5:Fm tsP B t5 w5:=Fm.of_grow OH.out (Nat.le_refl _) hgrow hBe (by decide)
 have T5:w5.heap[rb]?=some (.cells (rcL S sH sR sP sO sb km).toArray 60)/\Cl w5 xb [.int .i64 j,.bool b1,.bool b2]:=⟨keep_c TE.1 OH.out (by decide) hgrow,⟨Nat.lt_of_lt_of_le TE.2.1 hgrow.size,fun i hi=>(World.cell?_of_block (a:=⟨xb,i,none⟩) (hgrow.block xb TE.2.1 (fun e=>by have:=OLT.out xb e.symm;omega))).trans (TE.2.2 i hi)⟩⟩
 refine wpAnyL_appendZ (.tmp 57) (.tmp 59) (i:=9) rfl (by kernel_rfl) (by kernel_rfl) rfl rfl rfl hrun T5 (fun hHeld5=>?_)
 try go_frame
 refine wpAnyL_tkT 10 ?k17v rfl ?k17y ?k17r
 case k17y=>(intro w hSw;(try dsimp only at hSw);go_simp;try with_reducible rfl)
 try go_frame
 refine wpAnyL_tkT 11 ?k18v rfl ?k18y ?k18r
 case k18y=>(intro w hSw;(try dsimp only at hSw);go_simp;try with_reducible rfl)
 try go_frame
 refine wpAnyL_tkT 12 ?k19v rfl ?k19y ?k19r
 case k19y=>(intro w hSw;(try dsimp only at hSw);go_simp;try with_reducible rfl)
 try go_frame
 refine wpAnyL_tk 13 ?k20v rfl ?k20y ?k20r
 case k20y=>(intro w hSw;(try dsimp only at hSw);go_simp;try with_reducible rfl)
 try go_frame
 obtain⟨ao5,cz5,hv5⟩:=row_sliceZ hown
 subst hv5
 have r5:Rws w5 B (srcR (exP S (.slice sO.a sO.n sO.c)) (S.hs++[(⟨j,b1,b2⟩:HS)]) S.rg (ppl S) (.slice ao5 (S.hs.length+1) cz5) (.slice sR.a sR.n sR.c) (.slice sP.a sP.n sP.c) bv):=by
  have q:=ME.out.R.grow (j:=1) (r:=⟨88,3,.slice sH.a sH.n sH.c,S.hs.length,S.hs.flatMap hsL⟩) (r':=⟨88,3,.slice ao5 (S.hs.length+1) cz5,(S.hs++[(⟨j,b1,b2⟩:HS)]).length,(S.hs++[(⟨j,b1,b2⟩:HS)]).flatMap hsL⟩) rfl hgrow (by unfold Rw.own;rw[List.flatMap_append,List.length_append];simpa using hown) (hat.elim .inl (fun e=>.inr ⟨_,e,Nat.le_refl _⟩))
  exact q
 obtain⟨m6,f6⟩:=PR.set (S':={S with hs:=S.hs++[⟨j,b1,b2⟩]}) (sH':=⟨ao5,S.hs.length+1,cz5⟩) T5.1 (rcL_set1 S sH sR sP sO ⟨ao5,S.hs.length+1,cz5⟩ (S.hs++[⟨j,b1,b2⟩]) sb km) r5 ME.out.L ⟨ME.out.I.st,ME.out.I.d,by have:=H3.out;show(S.hs++_).length<=8;rw[List.length_append];simp;omega,ME.out.I.rg,ME.out.I.gv,ME.out.I.ps,ME.out.I.op,ME.out.I.ol,ME.out.I.od⟩ (ME.out.pk.fm f5)
 have M6:Hid (PR (w5.setCell ⟨rb,1,none⟩ (.slice ao5 (S.hs.length+1) cz5)) B {S with hs:=S.hs++[⟨j,b1,b2⟩]} rb sb nb ob mf km ⟨ao5,S.hs.length+1,cz5⟩ sR sP sO bv):=m6
 have F6:Hid (Fm tsP B w (w5.setCell ⟨rb,1,none⟩ (.slice ao5 (S.hs.length+1) cz5))):=(FE.out.trans f5).trans f6
 have y1:w5.cell? ⟨rb,1,none⟩=some (.slice sH.a sH.n sH.c):=q0 w5 T5
 have yf:=hp_frz T5.1
 clear hown hgrow hat hrun OH ME FE NW TE hHeld hHeld1 hHeld5 q0 q1 q2 q3 T5 f5 r5 m6 f6 HIS
 refine wpAnyL_store rfl (by kernel_rfl) (by kernel_rfl) (fun KK hK=>?_)
 go_simp
 refine hK.out _ _ ?_
 clear hK KK y1 yf
 generalize w5.setCell ⟨rb,1,none⟩ (.slice ao5 (S.hs.length+1) cz5)=u6 at M6 F6⊢
 have HU:Hid (heapS S f=match numW false (fd f 1),secW (fd f 2),wrtW (fd f 3)with|some a,some b,some c=>some {S with hs:=S.hs++[⟨a,b,c⟩]}|_,_,_=>none):=(heap_unf S f H0.out H2.out H3.out:heapS S f=match numW false (fd f 1),secW (fd f 2),wrtW (fd f 3)with|some a,some b,some c=>some {S with hs:=S.hs++[⟨a,b,c⟩]}|_,_,_=>none)
 cases bo with
 |false=>
  have HN:Hid (RR=none):=(by
   rw[<-HRR.out,HU.out]
   have h:=HBO.out
   cases hn:numW false (fd f 1)with
   |none=>rfl
   |some v=>rw[hn]at h;exact absurd h (by simp):RR=none)
  go_wp2_with fail
  go_ret
  rw[HN.out]
  exact⟨F6.out,rfl,fun _ h=>(by cases h)⟩
 |true=>
  rcases HSV.out with⟨s0,hs⟩|⟨rfl,hs⟩
  rotate_left
  ·have HN:Hid (RR=none):=(by rw[<-HRR.out,HU.out,hs];cases numW false (fd f 1)<;>rfl:RR=none)
   go_wp2_with fail
   go_ret
   rw[HN.out]
   exact⟨F6.out,rfl,fun _ h=>(by cases h)⟩
  rcases HWV.out with⟨w0,hw⟩|⟨rfl,hw⟩
  rotate_left
  ·have HN:Hid (RR=none):=(by rw[<-HRR.out,HU.out,hw];cases numW false (fd f 1)<;>cases secW (fd f 2)<;>rfl:RR=none)
   go_wp2_with fail
   go_ret
   rw[HN.out]
   exact⟨F6.out,rfl,fun _ h=>(by cases h)⟩
  have HN:Hid (RR=some {S with hs:=S.hs++[⟨j,b1,b2⟩]}):=(by
   rw[<-HRR.out,HU.out,hs,hw]
   have h:=HBO.out
   cases hn:numW false (fd f 1)with
   |none=>rw[hn]at h;exact absurd h (by simp)
   |some v=>rw[HJ.out v hn]:RR=some {S with hs:=S.hs++[⟨j,b1,b2⟩]})
  clear hs hw
  go_wp2_with fail
  go_ret
  rw[HN.out]
  exact⟨F6.out,rfl,fun _ h=>by cases h;exact⟨_,_,_,_,_,M6.out⟩⟩
end Go.Proofs.YtblfmpgdhpbffaaGreatDoor
