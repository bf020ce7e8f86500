import Derived.Test.YtfpeecaaleijcaaGreatDoorOfCl
import Derived.Test.YtfpeecaaleijcaaGreatDoorOfPzKind
import Derived.Test.YtfpeecaaleijcaaGreatDoorOfPzSpec
set_option maxHeartbeats 6400000
set_option maxRecDepth 20000
namespace Go.Proofs.YtfpeecaaleijcaaGreatDoor
open Go.RowKit Go.Proofs
theorem UI:(Tryz.prog.info? 38).map (fun i=>(i.zero,i.size,i.bytes))=some (some (.agg #[.slice none 0 0]),1,24):=by kernel_rfl
theorem Ur{a b:List UInt8}:Ck a=Ck b↔a=b:=⟨fun e=>by have:=congrArg (fun b:ByteArray=>b.data.toList) e;simpa[Ck]using this,fun e=>by rw[e]⟩
theorem XJ(a b l:List UInt8)(x:ByteArray)(hx:Ck l=x):Lib.idxOfS ([a,b].map Ck) x=if l=a then 0 else if l=b then 1 else -1:=by
 subst hx;simp only[List.map_cons,List.map_nil,Lib.idxOfS,Lib.idxFromS,Ur];by_cases h1:l=a
 ·subst h1;simp
 have g1:¬a=l:=fun e=>h1 e.symm
 by_cases h2:l=b
 ·subst h2;simp[h1,g1]
 have g2:¬b=l:=fun e=>h2 e.symm
 simp[h1,h2,g1,g2]
theorem iK(a b c d l:List UInt8)(x:ByteArray)(hx:Ck l=x):Lib.idxOfS ([a,b,c,d].map Ck) x=if l=a then 0 else if l=b then 1 else if l=c then 2 else if l=d then 3 else -1:=by
 subst hx;simp only[List.map_cons,List.map_nil,Lib.idxOfS,Lib.idxFromS,Ur];by_cases h1:l=a
 ·subst h1;simp
 have g1:¬a=l:=fun e=>h1 e.symm
 by_cases h2:l=b
 ·subst h2;simp[h1,g1]
 have g2:¬b=l:=fun e=>h2 e.symm
 by_cases h3:l=c
 ·subst h3;simp[h1,g1,h2,g2]
 have g3:¬c=l:=fun e=>h3 e.symm
 by_cases h4:l=d
 ·subst h4;simp[h1,g1,h2,g2,h3,g3]
 have g4:¬d=l:=fun e=>h4 e.symm
 simp[h1,h2,h3,h4,g1,g2,g3,g4]
theorem Pd{w:World}{B:Nat}{S:PS}{rb sb nb ob mf km:Nat}{sH sR sP sO:Sl}{bv:List Value}(h:PR w B S rb sb nb ob mf km sH sR sP sO bv):sH.n=S.hs.length/\sR.n=8/\sP.n=bv.length/\sO.n=S.op.length:=
 ⟨Ki (h.R.own 1 _ rfl),(Ki (h.R.own 2 _ rfl)).trans h.I.rg,Ki (h.R.own 3 _ rfl),Ki (h.R.own 0 _ rfl)⟩
theorem Ko(B:Nat)(S:PS)(rb sb nb ob mf km:Nat)(sH sR sP sO:Sl)(bv:List Value)(f:List (List UInt8))(fb fc:Nat)(w:World)(hB:B<=w.heap.size)(hm:PR w B S rb sb nb ob mf km sH sR sP sO bv)(hf:FA w fb f)(hl:∀i,((Ck (fd f i)).size:Int)<=200000)(hbd:Ie S 100000):
 Calls Tryz.prog 53 #[Vq rb,Vs fb f.length fc] w fun e w'=>PA B w rb sb nb ob mf km (Ku S f) e w':=by
 obtain⟨RR,hRR⟩:=Ae (Ku S f);rw[hRR];have HRR:=hxy hRR;have M:=hxy hm;have HBD:=hxy hbd;have HL:=hxy hl;have HF:=hxy hf;have hz:rb<w.heap.size:=(jH.1 hm.C).1;have hBb:=hm.b;obtain⟨c0,c1,c2,c3,c4,c13,c14,c15,c5,cf⟩:=hm.cells;have HC5:=hxy c5;clear hm hf hl hRR c5 hbd;go_enter Tryz.func53,Tryz.ntmps53;by_cases h0:S.st=0
 rotate_left
 ·have e1:((S.st:Int) !=0)=true:=by rw[bne_iff_ne];omega
  have HN:Hid (RR=none):=(by rw[<-HRR.out];unfold Ku;rw[if_neg (fun h=>h0 h.1)]:RR=none)
  clear h0;go_wp2_with fail;go_ret;rw[HN.out];exact⟨Fm.refl _ _ _,rfl,fun _ h=>(by cases h)⟩
 have e1:((S.st:Int) !=0)=false:=by rw[bne_eq_false_iff_eq];omega
 have H0:=hxy h0;clear h0;by_cases h2:f.length=2
 rotate_left
 ·have e2:((f.length:Int) !=2)=true:=by rw[bne_iff_ne];omega
  have HN:Hid (RR=none):=(by rw[<-HRR.out];unfold Ku;rw[if_neg (fun h=>h2 h.2)]:RR=none)
  clear h2;go_wp2_with fail;go_ret;rw[HN.out];exact⟨Fm.refl _ _ _,rfl,fun _ h=>(by cases h)⟩
 have e2:((f.length:Int) !=2)=false:=by rw[bne_eq_false_iff_eq];omega
 have e3:(1:Int)<(f.length:Int):=by omega
 obtain⟨s1,hs1⟩:=Ae (Ck (fd f 1));have HS1:=hxy hs1;have g1:w.cell? (Va fb 1)=some (.string s1):=(HF.out.cell 1 (by omega)).trans (by rw[hs1]);have H2:=hxy h2;clear h2 hs1;go_wp2_with fail;refine(EM ⟨#[103,97,115,32,109,97,115,109]⟩ [[103,97,115],[109,97,115,109]] s1 w M.out.E (by decide) (by decide) (by kernel_rfl) (by decide)).mono ?_;rintro e u⟨rfl,hb⟩;rw[XJ _ _ (fd f 1) s1 HS1.out];have M1:=hxy (M.out.below hb);have F1:Hid (Fm GL B w u):=Fm.of_below hb hB;obtain⟨k0,k1,k2,k3,k4,k13,k14,k15,k5,kf⟩:=M1.out.cells;obtain⟨dn,hdn⟩:∃y:Int,(if fd f 1=[103,97,115]then(0:Int)else if fd f 1=[109,97,115,109]then 1 else -1)=y:=⟨_,rfl⟩
 rw[hdn];have HDN:Hid ((Nn (fd f 1)=some dn/\(dn=0∨dn=1))∨(Nn (fd f 1)=none/\dn= -1)):=(by
  rw[<-hdn];unfold Nn;split
  ·exact .inl ⟨rfl,.inl rfl⟩
  ·split
   ·exact .inl ⟨rfl,.inr rfl⟩
   ·exact .inr ⟨rfl,rfl⟩:(Nn (fd f 1)=some dn/\(dn=0∨dn=1))∨(Nn (fd f 1)=none/\dn= -1))
 clear hdn hb c0 c1 c2 c3 c4 c13 c14 c15 cf g1 k5;go_upto_region 5 with fail;have f2:Fm GL B u ((u.setCell (Va rb 0) (Vi dn)).setCell (Va rb 4) (Vi 1)):=(Fm.of_set (a:=Va rb 0) M1.out.C (by decide) M1.out.b _).trans (Fm.of_set (a:=Va rb 4) (Bq M1.out.C 0 _) (by decide) M1.out.b _);have F2:=hxy (F1.out.trans f2);have q0:((u.setCell (Va rb 0) (Vi dn)).setCell (Va rb 4) (Vi 1)).cell? (Va rb 0)=some (Vi dn):=by simp[go_sem,k0]
 clear f2;rcases HDN.out with⟨hd,hd01⟩|⟨hd,rfl⟩
 ·have HN:Hid (RR=some {S with d:=dn,st:=1}):=(by rw[<-HRR.out];unfold Ku;rw[if_pos ⟨H0.out,H2.out⟩,hd];rfl:RR=some {S with d:=dn,st:=1})
  have M2:Hid (PR ((u.setCell (Va rb 0) (Vi dn)).setCell (Va rb 4) (Vi 1)) B {S with d:=dn,st:=1} rb sb nb ob mf km sH sR sP sO bv):=(by
   obtain⟨m2,f2⟩:=PR.set (S':={S with d:=dn}) M1.out.C (Xv S sH sR sP sO sb km dn) M1.out.R M1.out.L ⟨M1.out.I.st,hd01,M1.out.I.hs,M1.out.I.rg,M1.out.I.gv,M1.out.I.ps,M1.out.I.op,M1.out.I.ol,M1.out.I.od⟩ M1.out.pk;exact(PR.set (S':={S with d:=dn,st:=1}) m2.C (Lv _ sH sR sP sO sb km 1) m2.R m2.L ⟨by show 1<=3;omega,hd01,m2.I.hs,m2.I.rg,m2.I.gv,fun e=>absurd e (by show¬1=3;omega),fun _=>M1.out.I.op (by have:=H0.out;omega),m2.I.ol,m2.I.od⟩ m2.pk).1:PR ((u.setCell (Va rb 0) (Vi dn)).setCell (Va rb 4) (Vi 1)) B {S with d:=dn,st:=1} rb sb nb ob mf km sH sR sP sO bv)
  have e5:0<=dn:=by omega
  clear hd hd01 k0 k1 k2 k3 k4 k13 k14 k15 kf M1 F1;generalize(u.setCell (Va rb 0) (Vi dn)).setCell (Va rb 4) (Vi 1)=u2 at F2 q0 M2⊢;go_wp2_with fail;go_ret;rw[HN.out];exact⟨F2.out,rfl,fun _ h=>by cases h;exact⟨_,_,_,_,_,M2.out⟩⟩
 ·have HN:Hid (RR=none):=(by rw[<-HRR.out];unfold Ku;rw[if_pos ⟨H0.out,H2.out⟩,hd];rfl:RR=none)
  clear hd k0 k1 k2 k3 k4 k13 k14 k15 kf M1 F1;generalize(u.setCell (Va rb 0) (Vi (-1))).setCell (Va rb 4) (Vi 1)=u2 at F2 q0⊢;go_wp2_with fail;go_ret;rw[HN.out];exact⟨F2.out,rfl,fun _ h=>(by cases h)⟩
theorem QZ(B:Nat)(S:PS)(rb sb nb ob mf km:Nat)(sH sR sP sO:Sl)(bv:List Value)(f:List (List UInt8))(fb fc:Nat)(w:World)(_hB:B<=w.heap.size)(hm:PR w B S rb sb nb ob mf km sH sR sP sO bv)(hf:FA w fb f)(hl:∀i,((Ck (fd f i)).size:Int)<=200000)(hbd:Ie S 100000):
 Calls Tryz.prog 56 #[Vq rb,Vs fb f.length fc] w fun e w'=>PA B w rb sb nb ob mf km (Gj S f) e w':=by
 obtain⟨RR,hRR⟩:=Ae (Gj S f);rw[hRR];have HRR:=hxy hRR;have M:=hxy hm;have HBD:=hxy hbd;have HL:=hxy hl;have HF:=hxy hf;have hz:rb<w.heap.size:=(jH.1 hm.C).1;have hBb:=hm.b;obtain⟨c0,c1,c2,c3,c4,c13,c14,c15,c5,cf⟩:=hm.cells;have HC5:=hxy c5;clear hm hf hl hRR c5 hbd;go_enter Tryz.func56,Tryz.ntmps56;by_cases h0:S.st=0
 ·have e1:((S.st:Int)==0)=true:=by rw[beq_iff_eq];omega
  have HN:Hid (RR=none):=(by rw[<-HRR.out];unfold Gj;rw[if_neg (fun h=>h.1 h0)]:RR=none)
  clear h0;go_wp2_with fail;go_ret;rw[HN.out];exact⟨Fm.refl _ _ _,rfl,fun _ h=>(by cases h)⟩
 have e1:((S.st:Int)==0)=false:=by rw[beq_eq_false_iff_ne];omega
 have HNO:=hxy ((Pd M.out).2.2.2);by_cases h3:S.op=[]
 rotate_left
 ·have e3:(0:Int)<(sO.n:Int):=by
   have h1:S.op.length≠0:=fun e=>h3 (List.length_eq_zero_iff.1 e)
   have:=HNO.out;omega
  have HN:Hid (RR=none):=(by rw[<-HRR.out];unfold Gj;rw[if_neg (fun h=>h3 h.2.1)]:RR=none)
  clear h3;go_wp2_with fail;go_ret;rw[HN.out];exact⟨Fm.refl _ _ _,rfl,fun _ h=>(by cases h)⟩
 have e3:¬(0:Int)<(sO.n:Int):=by have:=HNO.out;rw[h3]at this;simp at this;omega
 by_cases h2:f.length=1
 rotate_left
 ·have e2:((f.length:Int) !=1)=true:=by rw[bne_iff_ne];omega
  have HN:Hid (RR=none):=(by rw[<-HRR.out];unfold Gj;rw[if_neg (fun h=>h2 h.2.2)]:RR=none)
  clear h2;go_wp2_with fail;go_ret;rw[HN.out];exact⟨Fm.refl _ _ _,rfl,fun _ h=>(by cases h)⟩
 have e2:((f.length:Int) !=1)=false:=by rw[bne_eq_false_iff_eq];omega
 have HN:Hid (RR=some {S with st:=3,ps:=S.ps++[[]]}):=(by rw[<-HRR.out];unfold Gj;rw[if_pos ⟨h0,h3,h2⟩]:RR=some {S with st:=3,ps:=S.ps++[[]]})
 have H3:=hxy h3;have hbl6:bv.length<=1000000:=by have:=M.out.L;have:=HBD.out.ps;omega
 clear h0 h2 h3;obtain⟨iS,gS,gS0,gS1,gS2⟩:=VL UI;have HIS:Hid (_/\_/\_/\_):=⟨gS,gS0,gS1,gS2⟩
 clear gS gS0 gS1 gS2;go_upto_region 4 with fail;obtain⟨u3,hu3,f3,hc3,r3,k3'⟩:∃y,w.setCell (Va rb 4) (Vi 3)=y/\Fm GL B w y/\y.heap[rb]?=some (.cells (EA {S with st:=3} sH sR sP sO sb km).toArray 85)/\Et y B (Df (MB S (.slice sO.a sO.n sO.c)) S.hs S.rg (LZ S) (.slice sH.a sH.n sH.c) (.slice sR.a sR.n sR.c) (.slice sP.a sP.n sP.c) bv)/\PK y B rb sb nb ob mf km:=by
  have f:Fm GL B w (w.setCell (Va rb 4) (Vi 3)):=Fm.of_set (a:=Va rb 4) M.out.C (by decide) M.out.b _;exact⟨_,rfl,f,(Bq M.out.C 4 _).trans (congrArg (fun a=>some (Obj.cells a 85 (0,0))) (Lv S sH sR sP sO sb km 3)),Oj M.out.R Pe M.out.C 4 _,M.out.pk.fm f⟩
 rw[hu3];have F3:=hxy f3;have C3:=hxy hc3;have R3:=hxy r3;have K3:=hxy k3';have hBu3:B<=u3.heap.size:=by have:=f3.b.size;omega
 have q3:u3.cell? (Va rb 3)=some (.slice sP.a sP.n sP.c):=AV hc3 3;have qf:=CQ hc3;have OA:Hid ((u3.alloc (.cells #[.slice none 0 0] 38)).ownsRow B 38 1 (.slice sP.a sP.n sP.c) bv.length bv):=JM (r3.own 3 _ rfl) (fun k hk=>((Below.refl u3.heap.size u3).alloc jG _).block k ((r3.own 3 _ rfl).lt k hk).2);have HCL:Hid (∀j u,[Value.slice none 0 0][j]?=some u->(u3.alloc (.cells #[.slice none 0 0] 38)).cell? ((⟨u3.heap.size,0,none⟩:Addr).add j)=some u):=Gf u3 #[.slice none 0 0] 38;have hBa:B<=(u3.alloc (.cells #[.slice none 0 0] 38)).heap.size:=by simp;omega
 clear hu3 f3 hc3 r3 k3' c0 c1 c2 c3 c4 c13 c14 c15 cf;go_wp2_with(first|(at_builtin;refine wpList_append_own_at _ rfl _ _ 27 rfl B 38 iS _ 1 24 Tryz.underlying27 HIS.out.1 HIS.out.2.1 HIS.out.2.2.1 HIS.out.2.2.2 rfl (by decide) (.slice sP.a sP.n sP.c) bv.length _ rfl OA.out ⟨u3.heap.size,0,none⟩ 1 1 [.slice none 0 0] rfl rfl HCL.out ?c2 ?c3 ?c4 hBa ?_))
 case c2=>simp[Value.oneCell']
 case c3=>unfold maxLen;omega
 case c4=>omega
 intro v' w5 hown hgrow _ hat;obtain⟨ao5,cz5,hv5⟩:=Dr hown;subst hv5;obtain⟨ua,hua,hba⟩:∃y,u3.alloc (.cells #[.slice none 0 0] 38)=y/\Below u3.heap.size u3 y:=⟨_,rfl,Ak⟩
 rw[hua]at hgrow OA;have hza:ua.heap.size<=u3.heap.size+1:=by rw[<-hua];simp
 have RA:=R3.out.below hba;have f5:Fm GL B ua w5:=Fm.of_grow OA.out jG hgrow (by have:=hba.size;omega) (by decide);have fA:Fm GL B u3 ua:=Fm.of_below hba hBu3;have r5:=RA.proc (by rw[VT];exact M.out.L) hgrow hown (hat.elim .inl (fun e=>.inr ⟨_,e,hza⟩));have hrb:rb<u3.heap.size:=(jH.1 C3.out).1;have c5:w5.heap[rb]?=some (.cells (EA {S with st:=3} sH sR sP sO sb km).toArray 85):=by
  refine(hgrow.block rb (jI hrb hba.size) (fun e=>?_)).trans ((hba.block rb hrb).trans C3.out);rcases OA.out.2 with⟨h',_⟩|⟨g',cap,cur,h',_,hh,_⟩
  ·rw[h']at e;cases e
  ·rw[h']at e
   have e2:rb=g':=Option.some.inj e;subst e2;rw[hba.block rb hrb,C3.out]at hh;exact absurd (Obj.cells.inj (Option.some.inj hh)).2.1 (by decide)
 have R5:Hid (Et w5 B (Df (MB {S with st:=3,ps:=S.ps++[[]]} (.slice sO.a sO.n sO.c)) S.hs S.rg (LZ {S with st:=3,ps:=S.ps++[[]]}) (.slice sH.a sH.n sH.c) (.slice sR.a sR.n sR.c) (.slice ao5 (bv.length+1) cz5) (bv++[.slice none 0 0]))):=(by
  rw[Iz (S:={S with st:=3,ps:=S.ps++[[]]}) H3.out];rw[Iz H3.out]at r5;exact r5:Et w5 B (Df (MB {S with st:=3,ps:=S.ps++[[]]} (.slice sO.a sO.n sO.c)) S.hs S.rg (LZ {S with st:=3,ps:=S.ps++[[]]}) (.slice sH.a sH.n sH.c) (.slice sR.a sR.n sR.c) (.slice ao5 (bv.length+1) cz5) (bv++[.slice none 0 0])))
 have C5:=hxy c5;have K5:=hxy ((K3.out.fm fA).fm f5);have F5:=hxy ((F3.out.trans fA).trans f5);have y3:w5.cell? (Va rb 3)=some (.slice sP.a sP.n sP.c):=AV c5 3;have yf:=CQ c5;clear hua hba hza hgrow hat OA RA f5 fA r5 HCL hBa R3 C3 K3 F3 c5 hown HIS q3 qf hrb;go_upto_region 5 with fail;obtain⟨m6,f6⟩:=PR.set (S':={S with st:=3,ps:=S.ps++[[]]}) (sH':=sH) (sR':=sR) (sP':=⟨ao5,bv.length+1,cz5⟩) (sO':=sO) C5.out (YM {S with st:=3} {S with st:=3,ps:=S.ps++[[]]} sH sR sP sO ⟨ao5,bv.length+1,cz5⟩ sb km rfl rfl rfl) R5.out (by rw[List.length_append,List.length_append,M.out.L];rfl) ⟨by show 3<=3;omega,M.out.I.d,M.out.I.hs,M.out.I.rg,M.out.I.gv,fun _=>by simp,fun e=>absurd rfl e,fun q hq=>(by have h9:q∈S.op:=hq;rw[H3.out]at h9;exact absurd h9 List.not_mem_nil),M.out.I.od⟩ K5.out;have M6:Hid _:=m6;have F6:Hid _:=F5.out.trans f6;clear m6 f6 y3 yf;go_wp2_with fail;go_ret;rw[HN.out];exact⟨F6.out,rfl,fun _ h=>by cases h;exact⟨_,_,_,_,_,M6.out⟩⟩
theorem KQ(l:List UInt8):let sv:Int:=(if l=[112,117,98,108,105,99]then 0 else if l=[115,101,99,114,101,116]then 1 else -1);(0<=sv/\Di l=some (sv==1))∨(sv= -1/\Di l=none):=by
 unfold Di;simp only;split
 ·exact .inl ⟨by omega,rfl⟩
 ·split
  ·exact .inl ⟨by omega,rfl⟩
  ·exact .inr ⟨rfl,rfl⟩
theorem Vv(l:List UInt8):let sv:Int:=(if l=[114,101,97,100]then 0 else if l=[119,114,105,116,101]then 1 else -1);(0<=sv/\Jr l=some (sv==1))∨(sv= -1/\Jr l=none):=by
 unfold Jr;simp only;split
 ·exact .inl ⟨by omega,rfl⟩
 ·split
  ·exact .inl ⟨by omega,rfl⟩
  ·exact .inr ⟨rfl,rfl⟩
theorem Xh(S:PS)(f:List (List UInt8))(h1:S.st=1)(h2:f.length=4)(h3:S.hs.length≠8):FC S f=match Bc false (fd f 1),Di (fd f 2),Jr (fd f 3)with|some a,some b,some c=>some {S with hs:=S.hs++[⟨a,b,c⟩]}|_,_,_=>none:=by
 unfold FC;rw[if_pos ⟨h1,h2,h3⟩];cases Bc false (fd f 1)<;>cases Di (fd f 2)<;>cases Jr (fd f 3)<;>rfl
theorem GR{w w':World}{B rb e z n:Nat}{v:Value}{xs:List Value}{cs:Array Value}(hc:w.heap[rb]?=some (.cells cs 85))(ho:w.ownsRow B e z v n xs)(he:e≠85)(hg:w.grownBy w' v.ownBlock):w'.heap[rb]?=some (.cells cs 85):=by
 refine(hg.block rb (jH.1 hc).1 (fun q=>?_)).trans hc;rcases ho.2 with⟨h',_⟩|⟨g',cap,cur,h',_,hh,_⟩
 ·rw[h']at q;cases q
 ·rw[h']at q
  have e2:=Option.some.inj q;subst e2;rw[hc]at hh;exact he (Obj.cells.inj (Option.some.inj hh)).2.1.symm
theorem Pt(B:Nat)(S:PS)(rb sb nb ob mf km:Nat)(sH sR sP sO:Sl)(bv:List Value)(f:List (List UInt8))(fb fc:Nat)(w:World)(hB:B<=w.heap.size)(hm:PR w B S rb sb nb ob mf km sH sR sP sO bv)(hf:FA w fb f)(hl:∀i,((Ck (fd f i)).size:Int)<=200000)(hbd:Ie S 100000):
 Calls Tryz.prog 54 #[Vq rb,Vs fb f.length fc] w fun e w'=>PA B w rb sb nb ob mf km (FC S f) e w':=by
 obtain⟨RR,hRR⟩:=Ae (FC S f);rw[hRR];have HRR:=hxy hRR;have M:=hxy hm;have HBD:=hxy hbd;have HL:=hxy hl;have HF:=hxy hf;have hz:rb<w.heap.size:=(jH.1 hm.C).1;have hBb:=hm.b;obtain⟨c0,c1,c2,c3,c4,c13,c14,c15,c5,cf⟩:=hm.cells;have HC5:=hxy c5;clear hm hf hl hRR c5 hbd;go_enter Tryz.func54,Tryz.ntmps54;have HNH:=hxy ((Pd M.out).1);by_cases h0:S.st=1
 rotate_left
 ·have e1:((S.st:Int) !=1)=true:=by rw[bne_iff_ne];omega
  have HN:Hid (RR=none):=(by rw[<-HRR.out];unfold FC;rw[if_neg (fun h=>h0 h.1)]:RR=none)
  clear h0;go_wp2_with fail;go_ret;rw[HN.out];exact⟨Fm.refl _ _ _,rfl,fun _ h=>(by cases h)⟩
 have e1:((S.st:Int) !=1)=false:=by rw[bne_eq_false_iff_eq];omega
 have H0:=hxy h0;clear h0;by_cases h2:f.length=4
 rotate_left
 ·have e2:((f.length:Int) !=4)=true:=by rw[bne_iff_ne];omega
  have HN:Hid (RR=none):=(by rw[<-HRR.out];unfold FC;rw[if_neg (fun h=>h2 h.2.1)]:RR=none)
  clear h2;go_wp2_with fail;go_ret;rw[HN.out];exact⟨Fm.refl _ _ _,rfl,fun _ h=>(by cases h)⟩
 have e2:((f.length:Int) !=4)=false:=by rw[bne_eq_false_iff_eq];omega
 have e4:(1:Int)<(f.length:Int):=by omega
 have e5:(2:Int)<(f.length:Int):=by omega
 have e6:(3:Int)<(f.length:Int):=by omega
 have h2z:3<f.length:=by omega
 have H2:=hxy h2;clear h2;by_cases h3:S.hs.length=8
 ·have e3:((sH.n:Int)==8)=true:=by rw[beq_iff_eq];have:=HNH.out;omega
  have HN:Hid (RR=none):=(by rw[<-HRR.out];unfold FC;rw[if_neg (fun h=>h.2.2 h3)]:RR=none)
  clear h3;go_wp2_with fail;go_ret;rw[HN.out];exact⟨Fm.refl _ _ _,rfl,fun _ h=>(by cases h)⟩
 have e3:((sH.n:Int)==8)=false:=by rw[beq_eq_false_iff_ne];have:=HNH.out;omega
 have H3:=hxy h3;clear h3;obtain⟨s1,hs1⟩:=Ae (Ck (fd f 1));obtain⟨s2,hs2⟩:=Ae (Ck (fd f 2));obtain⟨s3,hs3⟩:=Ae (Ck (fd f 3));have HS2:=hxy hs2;have HS3:=hxy hs3;have g1:w.cell? (Va fb 1)=some (.string s1):=(HF.out.cell 1 (by omega)).trans (by rw[hs1]);have hz1:(s1.size:Int)<=200000:=by rw[<-hs1];exact HL.out 1
 have HW:Hid (rdNum 0 s1.data.toList=Bc false (fd f 1)):=(by rw[<-hs1,show(0:Int)=(if false=true then -9999999999999 else 0)from rfl,FQ];simp[Ck]:rdNum 0 s1.data.toList=Bc false (fd f 1))
 clear hs1 hs2 hs3;go_wp2_with fail;refine(Co s1 0 w M.out.E hB hz1).mono ?_;rintro e u⟨j,rfl,hj,hb⟩;rw[HW.out]at hj⊢;have M1:=hxy (M.out.below hb);have F1:Hid (Fm GL B w u):=Fm.of_below hb hB;have A1:=hxy (HF.out.below hb);have hBu:B<=u.heap.size:=by have:=hb.size;omega
 have HJ:=hxy hj;obtain⟨bo,hbo⟩:=Ae ((Bc false (fd f 1)).isSome);have HBO:=hxy hbo;rw[hbo];clear hb hj hbo c0 c1 c2 c3 c4 c13 c14 c15 cf g1;go_upto_region 4 with fail;have r2:∀w':World,Below u.heap.size u w'->w'.cell? (Va fb 2)=some (.string s2):=fun w' h=>((A1.out.below h).cell 2 (by omega)).trans (by rw[HS2.out])
 have r3:∀w':World,Below u.heap.size u w'->w'.cell? (Va fb 3)=some (.string s3):=fun w' h=>((A1.out.below h).cell 3 (by omega)).trans (by rw[HS3.out])
 refine wp_region_held_drew (S:=fun w'=>Below u.heap.size u w') (by kernel_rfl) (Below.refl _ _).drew (fun hHeld=>?_);generalize u.drew=t0 at hHeld⊢;refine AB 0 rfl ?_;refine AB 1 rfl ?_;refine AB 2 rfl ?_;refine AB 4 rfl ?_;refine AB 5 rfl ?_;refine AB 6 rfl ?_;refine AO 3 rfl (fun KK hK=>?_);go_simp;refine(EM ⟨#[112,117,98,108,105,99,32,115,101,99,114,101,116]⟩ [[112,117,98,108,105,99],[115,101,99,114,101,116]] s2 t0 (M1.out.below hHeld).E (by decide) (by decide) (by kernel_rfl) (by decide)).mono ?_;rintro e t1⟨rfl,hb1⟩;rw[XJ _ _ (fd f 2) s2 HS2.out];obtain⟨sv,hsv⟩:∃y:Int,(if fd f 2=[112,117,98,108,105,99]then(0:Int)else if fd f 2=[115,101,99,114,101,116]then 1 else -1)=y:=⟨_,rfl⟩
 have HSV:Hid ((0<=sv/\Di (fd f 2)=some (sv==1))∨(sv= -1/\Di (fd f 2)=none)):=(by have h:=KQ (fd f 2);simp only at h;rw[hsv]at h;exact h:(0<=sv/\Di (fd f 2)=some (sv==1))∨(sv= -1/\Di (fd f 2)=none))
 rw[hsv];have hB1:=hHeld.trans (hb1.mono hHeld.size);clear hsv hb1;refine hK.out _ _ hB1 (fun hHeld1=>?_);clear hK KK;refine AO 7 rfl (fun KK hK=>?_);go_simp;refine(EM ⟨#[114,101,97,100,32,119,114,105,116,101]⟩ [[114,101,97,100],[119,114,105,116,101]] s3 t1 (M1.out.below hB1).E (by decide) (by decide) (by kernel_rfl) (by decide)).mono ?_;rintro e t2⟨rfl,hb2⟩;rw[XJ _ _ (fd f 3) s3 HS3.out];obtain⟨wv,hwv⟩:∃y:Int,(if fd f 3=[114,101,97,100]then(0:Int)else if fd f 3=[119,114,105,116,101]then 1 else -1)=y:=⟨_,rfl⟩
 have HWV:Hid ((0<=wv/\Jr (fd f 3)=some (wv==1))∨(wv= -1/\Jr (fd f 3)=none)):=(by have h:=Vv (fd f 3);simp only at h;rw[hwv]at h;exact h:(0<=wv/\Jr (fd f 3)=some (wv==1))∨(wv= -1/\Jr (fd f 3)=none))
 rw[hwv];have hB2:=hB1.trans (hb2.mono hB1.size);clear hwv hb2;refine hK.out _ _ hB2 (fun hHeld2=>?_);clear hK KK;refine AB 8 rfl ?_;refine AB 9 rfl ?_;refine wpAnyH_done (by kernel_rfl) ?_ _;have M2:=hxy (M1.out.below hB2);have F2:=hxy (F1.out.below hB2 hBu);have hBt2:B<=t2.heap.size:=by have:=hB2.size;omega
 clear hHeld hHeld1 hHeld2 hB1 hB2 r2 r3 M1 F1 A1;go_upto_region 6 with fail;obtain⟨b1,hb1⟩:=Ae ((sv==1));obtain⟨b2,hb2⟩:=Ae ((wv==1));rw[hb1]at HSV⊢;rw[hb2]at HWV⊢;clear hb1 hb2;obtain⟨u3,hu3,hb3,hc3⟩:∃y,t2.alloc (.cells #[Vi j,.bool b1,.bool b2] 40)=y/\Below t2.heap.size t2 y/\Cl y t2.heap.size [Vi j,.bool b1,.bool b2]:=⟨_,rfl,Ak,Cl.new⟩
 rw[hu3];obtain⟨xb,hxb⟩:=Ae t2.heap.size;rw[hxb]at hc3⊢;have OLT:Hid (∀k,(Value.slice sH.a sH.n sH.c).ownBlock=some k->k<xb):=(fun k hk=>by have:=(M2.out.R.own 1 _ rfl).lt k hk;omega:∀k,(Value.slice sH.a sH.n sH.c).ownBlock=some k->k<xb)
 have M3:=hxy (M2.out.below hb3);have F3:=hxy (F2.out.below hb3 hBt2);have hB3:B<=u3.heap.size:=by have:=hb3.size;omega
 have TD:u3.drew.heap[rb]?=some (.cells (EA S sH sR sP sO sb km).toArray 85)/\Cl u3.drew xb [Vi j,.bool b1,.bool b2]:=⟨M3.out.C,hc3.below (Below.refl _ _).drew⟩
 have MD:Hid (PR u3.drew B S rb sb nb ob mf km sH sR sP sO bv):=M3.out.below (Below.refl _ _).drew;have FD:Hid (Fm GL B w u3.drew):=F3.out.below (Below.refl _ _).drew hB3;have hBd:B<=u3.drew.heap.size:=hB3;have q0:∀w':World,(w'.heap[rb]?=some (.cells (EA S sH sR sP sO sb km).toArray 85)/\Cl w' xb [Vi j,.bool b1,.bool b2])->w'.cell? (Va rb 1)=some (.slice sH.a sH.n sH.c):=fun w' h=>AV h.1 1
 have q1:∀w':World,(w'.heap[rb]?=some (.cells (EA S sH sR sP sO sb km).toArray 85)/\Cl w' xb [Vi j,.bool b1,.bool b2])->w'.cell? (Va xb 0)=some (Vi j):=fun w' h=>h.2.2 0 (by simp)
 have q2:∀w':World,(w'.heap[rb]?=some (.cells (EA S sH sR sP sO sb km).toArray 85)/\Cl w' xb [Vi j,.bool b1,.bool b2])->w'.cell? (Va xb 1)=some (.bool b1):=fun w' h=>h.2.2 1 (by simp)
 have q3:∀w':World,(w'.heap[rb]?=some (.cells (EA S sH sR sP sO sb km).toArray 85)/\Cl w' xb [Vi j,.bool b1,.bool b2])->w'.cell? (Va xb 2)=some (.bool b2):=fun w' h=>h.2.2 2 (by simp)
 obtain⟨iS,gS,gS0,gS1,gS2⟩:=VL Wv;have HIS:Hid (_/\_/\_/\_):=⟨gS,gS0,gS1,gS2⟩
 have hs8:=M3.out.I.hs;clear gS gS0 gS1 gS2 hu3 hb3 hc3 hxb M2 F2;refine BF (T:=fun w'=>w'.heap[rb]?=some (.cells (EA S sH sR sP sO sb km).toArray 85)/\Cl w' xb [Vi j,.bool b1,.bool b2]) (s:=14) (by kernel_rfl) TD (fun hHeld=>?_);clear TD M3 F3;generalize u3.drew=t4 at hHeld MD FD hBd⊢;refine AJ 0 rfl ?_;refine AJ 1 rfl ?_;refine AJ 2 rfl ?_;refine AJ 3 rfl ?_;refine AJ 4 rfl ?_;refine AJ 5 rfl ?_;refine AJ 6 rfl ?_;refine AJ 7 rfl ?_;refine Aq (i:=8) rfl (by kernel_rfl) (fun KK hK=>?_);go_simp;obtain⟨t5,ht5,hbA,hnw⟩:∃y,t4.alloc (.cells #[Vi j,.bool b1,.bool b2] 40)=y/\Below t4.heap.size t4 y/\(∀i u,(hsL ⟨j,b1,b2⟩)[i]?=some u->y.cell? ((⟨t4.heap.size,0,none⟩:Addr).add i)=some u):=⟨_,rfl,Ak,Gf _ _ _⟩
 rw[ht5];have ME:=hxy (MD.out.below hbA);have FE:=hxy (FD.out.below hbA hBd);have TE:t5.heap[rb]?=some (.cells (EA S sH sR sP sO sb km).toArray 85)/\Cl t5 xb [Vi j,.bool b1,.bool b2]:=⟨ME.out.C,hHeld.2.below hbA⟩
 have hBe:B<=t5.heap.size:=by have:=hbA.size;omega
 have NW:Hid _:=hnw;clear ht5 hbA hnw MD FD;refine hK.out _ _ TE (fun hHeld1=>?_);clear hK KK;try simp only[Act.put,BP,BN,BK,BQ,BS,BM]
 have OH:Hid (t5.ownsRow B 40 3 (.slice sH.a sH.n sH.c) S.hs.length (S.hs.flatMap hsL)):=ME.out.R.own 1 _ rfl
 obtain⟨v',w5,hrun,hown,hgrow,_,hat⟩:=run_append_own_at (P:=Tryz.prog) t5 B 23 23 40 iS _ 3 16 Tryz.underlying23 HIS.out.1 HIS.out.2.1 HIS.out.2.2.1 HIS.out.2.2.2 rfl (by decide) (.slice sH.a sH.n sH.c) S.hs.length (S.hs.flatMap hsL) OH.out ⟨t4.heap.size,0,none⟩ 1 1 (hsL ⟨j,b1,b2⟩) rfl NW.out (by simp[hsL,Value.oneCell']) (by unfold maxLen;omega) (by omega) hBe
 have f5:Fm GL B t5 w5:=Fm.of_grow OH.out jG hgrow hBe (by decide)
 have T5:w5.heap[rb]?=some (.cells (EA S sH sR sP sO sb km).toArray 85)/\Cl w5 xb [Vi j,.bool b1,.bool b2]:=⟨GR TE.1 OH.out (by decide) hgrow,⟨jI TE.2.1 hgrow.size,fun i hi=>(World.cell?_of_block (a:=Va xb i) (hgrow.block xb TE.2.1 (fun e=>by have:=OLT.out xb e.symm;omega))).trans (TE.2.2 i hi)⟩⟩
 refine FP (.tmp 57) (.tmp 59) (i:=9) rfl (by kernel_rfl) (by kernel_rfl) rfl rfl rfl hrun T5 (fun hHeld5=>?_)
 try simp only[Act.put,BP,BN,BK,BQ,BS,BM]
 refine C9 10 rfl ?_
 refine C9 11 rfl ?_
 refine C9 12 rfl ?_
 refine AJ 13 rfl ?_
 obtain⟨ao5,cz5,hv5⟩:=Dr hown
 subst hv5
 have r5:Et w5 B (Df (MB S (.slice sO.a sO.n sO.c)) (S.hs++[(⟨j,b1,b2⟩:HS)]) S.rg (LZ S) (.slice ao5 (S.hs.length+1) cz5) (.slice sR.a sR.n sR.c) (.slice sP.a sP.n sP.c) bv):=by
  have q:=ME.out.R.grow (j:=1) (r:=⟨40,3,.slice sH.a sH.n sH.c,S.hs.length,S.hs.flatMap hsL⟩) (r':=⟨40,3,.slice ao5 (S.hs.length+1) cz5,(S.hs++[(⟨j,b1,b2⟩:HS)]).length,(S.hs++[(⟨j,b1,b2⟩:HS)]).flatMap hsL⟩) rfl hgrow (by unfold Rw.own;rw[List.flatMap_append,List.length_append];simpa using hown) (hat.elim .inl (fun e=>.inr ⟨_,e,jG⟩))
  exact q
 obtain⟨m6,f6⟩:=PR.set (S':={S with hs:=S.hs++[⟨j,b1,b2⟩]}) (sH':=⟨ao5,S.hs.length+1,cz5⟩) T5.1 (Yg S sH sR sP sO ⟨ao5,S.hs.length+1,cz5⟩ (S.hs++[⟨j,b1,b2⟩]) sb km) r5 ME.out.L ⟨ME.out.I.st,ME.out.I.d,by have:=H3.out;show(S.hs++_).length<=8;rw[List.length_append];simp;omega,ME.out.I.rg,ME.out.I.gv,ME.out.I.ps,ME.out.I.op,ME.out.I.ol,ME.out.I.od⟩ (ME.out.pk.fm f5)
 have M6:=hxy m6
 have F6:=hxy ((FE.out.trans f5).trans f6)
 have y1:=q0 w5 T5
 have yf:=CQ T5.1
 clear hown hgrow hat hrun OH ME FE NW TE hHeld hHeld1 hHeld5 q0 q1 q2 q3 T5 f5 r5 m6 f6 HIS
 refine A7 rfl (by kernel_rfl) (by kernel_rfl) (fun KK hK=>?_)
 go_simp
 refine hK.out _ _ ?_
 clear hK KK y1 yf
 generalize w5.setCell (Va rb 1) (.slice ao5 (S.hs.length+1) cz5)=u6 at M6 F6⊢
 have HU:Hid (FC S f=match Bc false (fd f 1),Di (fd f 2),Jr (fd f 3)with|some a,some b,some c=>some {S with hs:=S.hs++[⟨a,b,c⟩]}|_,_,_=>none):=(Xh S f H0.out H2.out H3.out:FC S f=match Bc false (fd f 1),Di (fd f 2),Jr (fd f 3)with|some a,some b,some c=>some {S with hs:=S.hs++[⟨a,b,c⟩]}|_,_,_=>none)
 cases bo with
 |false=>
  have HN:Hid (RR=none):=(by
   rw[<-HRR.out,HU.out]
   have h:=HBO.out
   cases hn:Bc false (fd f 1)with
   |none=>rfl
   |some v=>rw[hn]at h;exact absurd h (by simp):RR=none)
  go_wp2_with fail
  go_ret
  rw[HN.out]
  exact⟨F6.out,rfl,fun _ h=>(by cases h)⟩
 |true=>
  rcases HSV.out with⟨s0,hs⟩|⟨rfl,hs⟩
  rotate_left
  ·have HN:Hid (RR=none):=(by rw[<-HRR.out,HU.out,hs];cases Bc false (fd f 1)<;>rfl:RR=none)
   go_wp2_with fail
   go_ret
   rw[HN.out]
   exact⟨F6.out,rfl,fun _ h=>(by cases h)⟩
  rcases HWV.out with⟨w0,hw⟩|⟨rfl,hw⟩
  rotate_left
  ·have HN:Hid (RR=none):=(by rw[<-HRR.out,HU.out,hw];cases Bc false (fd f 1)<;>cases Di (fd f 2)<;>rfl:RR=none)
   go_wp2_with fail
   go_ret
   rw[HN.out]
   exact⟨F6.out,rfl,fun _ h=>(by cases h)⟩
  have HN:Hid (RR=some {S with hs:=S.hs++[⟨j,b1,b2⟩]}):=(by
   rw[<-HRR.out,HU.out,hs,hw]
   have h:=HBO.out
   cases hn:Bc false (fd f 1)with
   |none=>rw[hn]at h;exact absurd h (by simp)
   |some v=>rw[HJ.out v hn]:RR=some {S with hs:=S.hs++[⟨j,b1,b2⟩]})
  clear hs hw
  go_wp2_with fail
  go_ret
  rw[HN.out]
  exact⟨F6.out,rfl,fun _ h=>by cases h;exact⟨_,_,_,_,_,M6.out⟩⟩
end Go.Proofs.YtfpeecaaleijcaaGreatDoor
