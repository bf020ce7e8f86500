import Derived.Test.YtblfmpgdhpbffaaGreatDoorOfPzStm0
set_option maxHeartbeats 12800000
set_option maxRecDepth 20000
namespace Go.Proofs.YtblfmpgdhpbffaaGreatDoor
open Go.RowKit
theorem l6Stmt_if(B:Nat)(S:PS)(sH sR sP sN sO:Sl)(bv:List Value)(l:List UInt8)(f:List (List UInt8))(fb fc:Nat)(w:World)(hB:B<=w.heap.size)(hm:MS w B S sH sR sP sN sO bv)(h3:S.st=3)(hbl:(bodS S).length<=1000000)(hp:S.ps.length<=1000000)(ho6:S.op.length<=1000000)(hth:∀o∈S.op,0<=o.th/\o.th<=1000000)(hf:FA w fb f)(hl:∀i,((stB (fd f i)).size:Int)<=200000)(_hll:((stB l).size:Int)<=200000)(hne:0<f.length)(hlf:f.length<=200001)(hw:fd f 0=[105,102]):
 Calls Tryz.prog 25 #[.agg #[.int .i64 S.d,.slice sH.a sH.n sH.c,.slice sR.a sR.n sR.c,.slice sP.a sP.n sP.c,.int .i64 (S.st:Int),.slice sN.a sN.n sN.c,.slice sO.a sO.n sO.c,.bool false],.string (stB l),.slice (some ⟨fb,0,none⟩) f.length fc] w fun e w'=>MR B w (stmS S l f) e w':=by
 obtain⟨RR,hRR⟩:∃y,stmS S l f=y:=⟨_,rfl⟩
 rw[hRR];have HRR:Hid (stmS S l f=RR):=hRR;have M:Hid (MS w B S sH sR sP sN sO bv):=hm;have H3:Hid (S.st=3):=h3;have HTH:Hid (∀o∈S.op,0<=o.th/\o.th<=1000000):=hth;have HL:Hid (∀i,((stB (fd f i)).size:Int)<=200000):=hl;have HF:Hid (FA w fb f):=hf;clear hm hf hl h3 hth hRR;go_enter Tryz.func25,Tryz.ntmps25;go_upto_region 1 with fail;obtain⟨u,hu,p0,bu⟩:∃y,((w.alloc (.cells #[.int .i64 S.d,.slice sH.a sH.n sH.c,.slice sR.a sR.n sR.c,.slice sP.a sP.n sP.c,.int .i64 (S.st:Int),.slice sN.a sN.n sN.c,.slice sO.a sO.n sO.c,.bool false] 45)).alloc (.cells #[.int .i64 0,.slice none 0 0,.slice none 0 0,.slice none 0 0,.int .i64 0,.slice none 0 0,.slice none 0 0,.bool false] 45))=y/\PX w.heap.size (w.heap.size+1) #[.int .i64 S.d,.slice sH.a sH.n sH.c,.slice sR.a sR.n sR.c,.slice sP.a sP.n sP.c,.int .i64 (S.st:Int),.slice sN.a sN.n sN.c,.slice sO.a sO.n sO.c,.bool false] #[.int .i64 0,.slice none 0 0,.slice none 0 0,.slice none 0 0,.int .i64 0,.slice none 0 0,.slice none 0 0,.bool false] y/\Below w.heap.size w y:=⟨_,rfl,px_new w _ _,two_below w _ _⟩
 rw[hu];obtain⟨x,hx⟩:∃y,w.heap.size=y:=⟨_,rfl⟩
 rw[hx]at p0⊢;have HX:Hid (w.heap.size=x):=hx;have P0:Hid (PX x (x+1) #[.int .i64 S.d,.slice sH.a sH.n sH.c,.slice sR.a sR.n sR.c,.slice sP.a sP.n sP.c,.int .i64 (S.st:Int),.slice sN.a sN.n sN.c,.slice sO.a sO.n sO.c,.bool false] #[.int .i64 0,.slice none 0 0,.slice none 0 0,.slice none 0 0,.int .i64 0,.slice none 0 0,.slice none 0 0,.bool false] u):=p0;have F0:Hid (Fm tsM B w u):=Fm.of_below bu hB;have M0:Hid (MS u B S sH sR sP sN sO bv):=M.out.below bu;have hBx:B<=x:=by omega
 have hBu:B<=u.heap.size:=by have:=bu.size;omega
 have A0:Hid (FA u fb f):=HF.out.below bu;obtain⟨c0,c1,c2,c3,c4,c5,c6,c7⟩:=hp8 p0.P;have e0:(0:Int)<(f.length:Int):=by omega
 have HXS:Hid (x+1<u.heap.size):=(Array.getElem?_eq_some_iff.1 p0.R).1;clear hu hx p0 bu HF M;obtain⟨s0,hs0⟩:∃y,stB (fd f 0)=y:=⟨_,rfl⟩
 obtain⟨s1,hs1⟩:∃y,stB (fd f 1)=y:=⟨_,rfl⟩
 obtain⟨sl,hsl⟩:∃y,stB l=y:=⟨_,rfl⟩
 have HS0:Hid (stB (fd f 0)=s0):=hs0;have HS1:Hid (stB (fd f 1)=s1):=hs1;have HSL:Hid (stB l=sl):=hsl;have g0:u.cell? ⟨fb,0,none⟩=some (.string s0):=(A0.out.cell 0 hne).trans (by rw[hs0]);have hz1:(s1.size:Int)<=200000:=by rw[<-hs1];exact HL.out 1
 rw[hsl];have WD:Hid (s1.data.toList=fd f 1):=(by rw[<-hs1];simp[stB]:s1.data.toList=fd f 1)
 have WL:Hid (sl.data.toList=l):=(by rw[<-hsl];simp[stB]:sl.data.toList=l)
 clear hs0 hs1 hsl;obtain⟨q0,q0'⟩:=beqT HS0.out hw;obtain⟨q1,q1'⟩:=beqF (a:=[119,104,105,108,101]) HS0.out (by rw[hw];decide);have HSO:Hid (RR=opnS S 2 f):=(by rw[<-HRR.out];unfold stmS;rw[if_pos H3.out,if_pos hw]:RR=opnS S 2 f)
 clear hw;by_cases h2:f.length=2
 rotate_left
 ·have e2:((f.length:Int) !=2)=true:=by rw[bne_iff_ne];omega
  have HR:Hid (RR=none):=(by rw[HSO.out];unfold opnS;rw[if_neg (fun h=>h2 h.1)]:RR=none)
  clear h2;go_wp2_with fail;refine(l6Bad_any S.d (S.st:Int) sH sR sP sN sO false u).mono ?_;rintro e u9⟨rfl,hb9⟩;have P9:=P0.out.below hb9;have F9:Hid (Fm tsM B w u9):=F0.out.below hb9 hBu;obtain⟨z0,z1,z2,z3,z4,z5,z6,z7⟩:=hp8 P9.R;have f9:=hp_frz P9.R;clear hb9;go_wp2;refine bodyPost_ret (v:=.agg #[.int .i64 S.d,.slice sH.a sH.n sH.c,.slice sR.a sR.n sR.c,.slice sP.a sP.n sP.c,.int .i64 (S.st:Int),.slice sN.a sN.n sN.c,.slice sO.a sO.n sO.c,.bool true]) (by simp[results,Tryz.results25,go_sem,z0,z1,z2,z3,z4,z5,z6,z7]) rfl ?_;unfold MR;rw[HR.out];exact⟨F9.out.put8 (by have:=HX.out;omega) (by omega) _ _ _ _ _ _ _ _,S.d,(S.st:Int),sH,sR,sP,sN,sO,rfl⟩
 have e2:((f.length:Int) !=2)=false:=by rw[bne_eq_false_iff_eq];omega
 have e3:(1:Int)<(f.length:Int):=by omega
 have g1:u.cell? ⟨fb,1,none⟩=some (.string s1):=(A0.out.cell 1 (by omega)).trans (by rw[HS1.out]);have H2:Hid (f.length=2):=h2;clear h2;go_wp2_with fail;refine(l6Cond_any s1 u).mono ?_;rintro e u1⟨rfl,hu1⟩;rw[hu1,WD.out];clear hu1;by_cases hc:cndW (fd f 1)=0
 ·have e4:(cndW (fd f 1)==0)=true:=by rw[beq_iff_eq];exact hc
  have HR:Hid (RR=none):=(by rw[HSO.out];unfold opnS;rw[if_neg (fun h=>h.2 hc)]:RR=none)
  clear hc;go_wp2_with fail;refine(l6Bad_any S.d (S.st:Int) sH sR sP sN sO false u).mono ?_;rintro e u9⟨rfl,hb9⟩;have P9:=P0.out.below hb9;have F9:Hid (Fm tsM B w u9):=F0.out.below hb9 hBu;obtain⟨z0,z1,z2,z3,z4,z5,z6,z7⟩:=hp8 P9.R;have f9:=hp_frz P9.R;clear hb9;go_wp2;refine bodyPost_ret (v:=.agg #[.int .i64 S.d,.slice sH.a sH.n sH.c,.slice sR.a sR.n sR.c,.slice sP.a sP.n sP.c,.int .i64 (S.st:Int),.slice sN.a sN.n sN.c,.slice sO.a sO.n sO.c,.bool true]) (by simp[results,Tryz.results25,go_sem,z0,z1,z2,z3,z4,z5,z6,z7]) rfl ?_;unfold MR;rw[HR.out];exact⟨F9.out.put8 (by have:=HX.out;omega) (by omega) _ _ _ _ _ _ _ _,S.d,(S.st:Int),sH,sR,sP,sN,sO,rfl⟩
 have e4:(cndW (fd f 1)==0)=false:=by rw[beq_eq_false_iff_ne];exact hc
 have HR:Hid (RR=some {addS S (⟨2,0,0,0,0,0,0,cndW (fd f 1),0,0,0⟩:SV)with op:=⟨(bodS S).length,0,false⟩::S.op}):=(by rw[HSO.out];unfold opnS;rw[if_pos ⟨H2.out,hc⟩];rfl:RR=some {addS S (⟨2,0,0,0,0,0,0,cndW (fd f 1),0,0,0⟩:SV)with op:=⟨(bodS S).length,0,false⟩::S.op})
 obtain⟨cv,hcv⟩:∃y,cndW (fd f 1)=y:=⟨_,rfl⟩
 rw[hcv]at e4 HR⊢;have HCV:Hid (cndW s1.data.toList=cv):=(by rw[WD.out,hcv]:cndW s1.data.toList=cv)
 clear hc hcv;go_wp2_with fail;refine(l6Cond_any s1 u).mono ?_;rintro e u1⟨rfl,hu1⟩;rw[hu1,HCV.out];clear hu1;go_upto_region 7 with fail;obtain⟨ib,g,aB,cB,hbv,hps,hil,hPa,hPn,hPc,hcl,hg⟩:=M0.out.last H3.out;have hP0:0<sP.n:=by omega
 have hP6:(sP.n:Int)<=1000000:=by have:=M0.out.L;rw[hbv]at this;simp at this;omega
 obtain⟨u2,hu2,hb2,hc2⟩:∃y,u.alloc (.cells #[.int .i64 2,.int .i64 0,.int .i64 0,.int .i64 0,.int .i64 0,.int .i64 0,.int .i64 0,.int .i64 cv,.int .i64 0,.int .i64 0,.int .i64 0] 93)=y/\Below u.heap.size u y/\Cl y u.heap.size [.int .i64 2,.int .i64 0,.int .i64 0,.int .i64 0,.int .i64 0,.int .i64 0,.int .i64 0,.int .i64 cv,.int .i64 0,.int .i64 0,.int .i64 0]:=⟨_,rfl,(Below.refl _ _).alloc (Nat.le_refl _) _,Cl.new⟩
 have HNN:Hid (sP.n=ib.length+1):=hPn;have G2:Hid (u2.cell? ⟨g,sP.n-1,none⟩=some (.slice aB (bodS S).length cB)):=(by rw[show sP.n-1=ib.length by omega];exact(hb2.cell (p:=⟨g,ib.length,none⟩) hg).trans hcl:u2.cell? ⟨g,sP.n-1,none⟩=some (.slice aB (bodS S).length cB))
 obtain⟨sb,hsb⟩:∃y,u.heap.size=y:=⟨_,rfl⟩
 rw[hu2];have g0:u2.cell? ⟨fb,0,none⟩=some (.string s0):=((A0.out.below hb2).cell 0 hne).trans (by rw[HS0.out]);clear hu2;go_upto_region 9 with fail;rw[hsb]at hc2⊢;have HPA:Hid (sP.a=some ⟨g,0,none⟩):=hPa;have HPS:Hid (S.ps=S.ps.dropLast++[bodS S]):=hps;have P2:Hid (PX x (x+1) #[.int .i64 S.d,.slice sH.a sH.n sH.c,.slice sR.a sR.n sR.c,.slice sP.a sP.n sP.c,.int .i64 (S.st:Int),.slice sN.a sN.n sN.c,.slice sO.a sO.n sO.c,.bool false] #[.int .i64 0,.slice none 0 0,.slice none 0 0,.slice none 0 0,.int .i64 0,.slice none 0 0,.slice none 0 0,.bool false] u2):=P0.out.below hb2;have M2:Hid (MS u2 B S sH sR sP sN sO bv):=M0.out.below hb2;have F2:Hid (Fm tsM B w u2):=F0.out.below hb2 hBu;have hBu2:B<=u2.heap.size:=by have:=hb2.size;omega
 have hg2:g<u2.heap.size:=Nat.lt_of_lt_of_le hg hb2.size;have HSB:Hid (u.heap.size=sb):=hsb;have OLT:Hid (∀k,(Value.slice sO.a sO.n sO.c).ownBlock=some k->k<sb):=(fun k hk=>by have:=(M0.out.R.own 1 _ rfl).lt k hk;omega:∀k,(Value.slice sO.a sO.n sO.c).ownBlock=some k->k<sb)
 have C2:Hid (Cl u2 sb [.int .i64 2,.int .i64 0,.int .i64 0,.int .i64 0,.int .i64 0,.int .i64 0,.int .i64 0,.int .i64 cv,.int .i64 0,.int .i64 0,.int .i64 0]):=hc2
 obtain⟨iS,gS,gS0,gS1,gS2⟩:=info4 info_open
 have HIS:Hid (_/\_/\_/\_):=⟨gS,gS0,gS1,gS2⟩
 have TD:PX x (x+1) #[.int .i64 S.d,.slice sH.a sH.n sH.c,.slice sR.a sR.n sR.c,.slice sP.a sP.n sP.c,.int .i64 (S.st:Int),.slice sN.a sN.n sN.c,.slice sO.a sO.n sO.c,.bool false] #[.int .i64 0,.slice none 0 0,.slice none 0 0,.slice none 0 0,.int .i64 0,.slice none 0 0,.slice none 0 0,.bool false] u2.drew/\Cl u2.drew sb [.int .i64 2,.int .i64 0,.int .i64 0,.int .i64 0,.int .i64 0,.int .i64 0,.int .i64 0,.int .i64 cv,.int .i64 0,.int .i64 0,.int .i64 0]/\u2.drew.cell? ⟨g,sP.n-1,none⟩=some (.slice aB (bodS S).length cB):=⟨P2.out.below (Below.refl _ _).drew,hc2.below (Below.refl _ _).drew,G2.out⟩
 have MD:Hid (MS u2.drew B S sH sR sP sN sO bv):=M2.out.below (Below.refl _ _).drew
 have FD:Hid (Fm tsM B w u2.drew):=F2.out.below (Below.refl _ _).drew hBu2
 have hBd:B<=u2.drew.heap.size:=hBu2
 have hgd:g<u2.drew.heap.size:=hg2
 clear hb2 hc2 hbv hps hil hPa hPn hPc hcl hg hsb gS gS0 gS1 gS2 c0 c1 c2 c3 c4 c5 c6 c7 g0 g1
 have r0:∀w':World,(PX x (x+1) #[.int .i64 S.d,.slice sH.a sH.n sH.c,.slice sR.a sR.n sR.c,.slice sP.a sP.n sP.c,.int .i64 (S.st:Int),.slice sN.a sN.n sN.c,.slice sO.a sO.n sO.c,.bool false] #[.int .i64 0,.slice none 0 0,.slice none 0 0,.slice none 0 0,.int .i64 0,.slice none 0 0,.slice none 0 0,.bool false] w'/\Cl w' sb [.int .i64 2,.int .i64 0,.int .i64 0,.int .i64 0,.int .i64 0,.int .i64 0,.int .i64 0,.int .i64 cv,.int .i64 0,.int .i64 0,.int .i64 0]/\w'.cell? ⟨g,sP.n-1,none⟩=some (.slice aB (bodS S).length cB))->w'.cell? ⟨x,0,none⟩=some (.int .i64 S.d):=fun w' h=>hp_cell h.1.P 0
 have r1:∀w':World,(PX x (x+1) #[.int .i64 S.d,.slice sH.a sH.n sH.c,.slice sR.a sR.n sR.c,.slice sP.a sP.n sP.c,.int .i64 (S.st:Int),.slice sN.a sN.n sN.c,.slice sO.a sO.n sO.c,.bool false] #[.int .i64 0,.slice none 0 0,.slice none 0 0,.slice none 0 0,.int .i64 0,.slice none 0 0,.slice none 0 0,.bool false] w'/\Cl w' sb [.int .i64 2,.int .i64 0,.int .i64 0,.int .i64 0,.int .i64 0,.int .i64 0,.int .i64 0,.int .i64 cv,.int .i64 0,.int .i64 0,.int .i64 0]/\w'.cell? ⟨g,sP.n-1,none⟩=some (.slice aB (bodS S).length cB))->w'.cell? ⟨x,1,none⟩=some (.slice sH.a sH.n sH.c):=fun w' h=>hp_cell h.1.P 1
 have r2:∀w':World,(PX x (x+1) #[.int .i64 S.d,.slice sH.a sH.n sH.c,.slice sR.a sR.n sR.c,.slice sP.a sP.n sP.c,.int .i64 (S.st:Int),.slice sN.a sN.n sN.c,.slice sO.a sO.n sO.c,.bool false] #[.int .i64 0,.slice none 0 0,.slice none 0 0,.slice none 0 0,.int .i64 0,.slice none 0 0,.slice none 0 0,.bool false] w'/\Cl w' sb [.int .i64 2,.int .i64 0,.int .i64 0,.int .i64 0,.int .i64 0,.int .i64 0,.int .i64 0,.int .i64 cv,.int .i64 0,.int .i64 0,.int .i64 0]/\w'.cell? ⟨g,sP.n-1,none⟩=some (.slice aB (bodS S).length cB))->w'.cell? ⟨x,2,none⟩=some (.slice sR.a sR.n sR.c):=fun w' h=>hp_cell h.1.P 2
 have r3:∀w':World,(PX x (x+1) #[.int .i64 S.d,.slice sH.a sH.n sH.c,.slice sR.a sR.n sR.c,.slice sP.a sP.n sP.c,.int .i64 (S.st:Int),.slice sN.a sN.n sN.c,.slice sO.a sO.n sO.c,.bool false] #[.int .i64 0,.slice none 0 0,.slice none 0 0,.slice none 0 0,.int .i64 0,.slice none 0 0,.slice none 0 0,.bool false] w'/\Cl w' sb [.int .i64 2,.int .i64 0,.int .i64 0,.int .i64 0,.int .i64 0,.int .i64 0,.int .i64 0,.int .i64 cv,.int .i64 0,.int .i64 0,.int .i64 0]/\w'.cell? ⟨g,sP.n-1,none⟩=some (.slice aB (bodS S).length cB))->w'.cell? ⟨x,3,none⟩=some (.slice sP.a sP.n sP.c):=fun w' h=>hp_cell h.1.P 3
 have r4:∀w':World,(PX x (x+1) #[.int .i64 S.d,.slice sH.a sH.n sH.c,.slice sR.a sR.n sR.c,.slice sP.a sP.n sP.c,.int .i64 (S.st:Int),.slice sN.a sN.n sN.c,.slice sO.a sO.n sO.c,.bool false] #[.int .i64 0,.slice none 0 0,.slice none 0 0,.slice none 0 0,.int .i64 0,.slice none 0 0,.slice none 0 0,.bool false] w'/\Cl w' sb [.int .i64 2,.int .i64 0,.int .i64 0,.int .i64 0,.int .i64 0,.int .i64 0,.int .i64 0,.int .i64 cv,.int .i64 0,.int .i64 0,.int .i64 0]/\w'.cell? ⟨g,sP.n-1,none⟩=some (.slice aB (bodS S).length cB))->w'.cell? ⟨x,4,none⟩=some (.int .i64 (S.st:Int)):=fun w' h=>hp_cell h.1.P 4
 have r5:∀w':World,(PX x (x+1) #[.int .i64 S.d,.slice sH.a sH.n sH.c,.slice sR.a sR.n sR.c,.slice sP.a sP.n sP.c,.int .i64 (S.st:Int),.slice sN.a sN.n sN.c,.slice sO.a sO.n sO.c,.bool false] #[.int .i64 0,.slice none 0 0,.slice none 0 0,.slice none 0 0,.int .i64 0,.slice none 0 0,.slice none 0 0,.bool false] w'/\Cl w' sb [.int .i64 2,.int .i64 0,.int .i64 0,.int .i64 0,.int .i64 0,.int .i64 0,.int .i64 0,.int .i64 cv,.int .i64 0,.int .i64 0,.int .i64 0]/\w'.cell? ⟨g,sP.n-1,none⟩=some (.slice aB (bodS S).length cB))->w'.cell? ⟨x,5,none⟩=some (.slice sN.a sN.n sN.c):=fun w' h=>hp_cell h.1.P 5
 have r6:∀w':World,(PX x (x+1) #[.int .i64 S.d,.slice sH.a sH.n sH.c,.slice sR.a sR.n sR.c,.slice sP.a sP.n sP.c,.int .i64 (S.st:Int),.slice sN.a sN.n sN.c,.slice sO.a sO.n sO.c,.bool false] #[.int .i64 0,.slice none 0 0,.slice none 0 0,.slice none 0 0,.int .i64 0,.slice none 0 0,.slice none 0 0,.bool false] w'/\Cl w' sb [.int .i64 2,.int .i64 0,.int .i64 0,.int .i64 0,.int .i64 0,.int .i64 0,.int .i64 0,.int .i64 cv,.int .i64 0,.int .i64 0,.int .i64 0]/\w'.cell? ⟨g,sP.n-1,none⟩=some (.slice aB (bodS S).length cB))->w'.cell? ⟨x,6,none⟩=some (.slice sO.a sO.n sO.c):=fun w' h=>hp_cell h.1.P 6
 have r7:∀w':World,(PX x (x+1) #[.int .i64 S.d,.slice sH.a sH.n sH.c,.slice sR.a sR.n sR.c,.slice sP.a sP.n sP.c,.int .i64 (S.st:Int),.slice sN.a sN.n sN.c,.slice sO.a sO.n sO.c,.bool false] #[.int .i64 0,.slice none 0 0,.slice none 0 0,.slice none 0 0,.int .i64 0,.slice none 0 0,.slice none 0 0,.bool false] w'/\Cl w' sb [.int .i64 2,.int .i64 0,.int .i64 0,.int .i64 0,.int .i64 0,.int .i64 0,.int .i64 0,.int .i64 cv,.int .i64 0,.int .i64 0,.int .i64 0]/\w'.cell? ⟨g,sP.n-1,none⟩=some (.slice aB (bodS S).length cB))->w'.cell? ⟨x,7,none⟩=some (.bool false):=fun w' h=>hp_cell h.1.P 7
 refine wp_region_L (T:=fun w'=>PX x (x+1) #[.int .i64 S.d,.slice sH.a sH.n sH.c,.slice sR.a sR.n sR.c,.slice sP.a sP.n sP.c,.int .i64 (S.st:Int),.slice sN.a sN.n sN.c,.slice sO.a sO.n sO.c,.bool false] #[.int .i64 0,.slice none 0 0,.slice none 0 0,.slice none 0 0,.int .i64 0,.slice none 0 0,.slice none 0 0,.bool false] w'/\Cl w' sb [.int .i64 2,.int .i64 0,.int .i64 0,.int .i64 0,.int .i64 0,.int .i64 0,.int .i64 0,.int .i64 cv,.int .i64 0,.int .i64 0,.int .i64 0]/\w'.cell? ⟨g,sP.n-1,none⟩=some (.slice aB (bodS S).length cB)) (s:=9) (by kernel_rfl) TD (fun hHeld=>?_)
 clear TD P2 M2 F2 C2 G2 P0 M0 F0 A0
 generalize u2.drew=t0 at hHeld MD FD hBd hgd⊢
 refine wpAnyL_tk 0 ?k1v rfl ?k1y ?k1r
 case k1y=>(intro w hSw;(try dsimp only at hSw);go_simp;try with_reducible rfl)
 try go_frame
 refine wpAnyL_tk 1 ?k2v rfl ?k2y ?k2r
 case k2y=>(intro w hSw;(try dsimp only at hSw);go_simp;try with_reducible rfl)
 try go_frame
 refine wpAnyL_tk 2 ?k3v rfl ?k3y ?k3r
 case k3y=>(intro w hSw;(try dsimp only at hSw);go_simp;try with_reducible rfl)
 try go_frame
 refine wpAnyL_call (i:=3) rfl (by kernel_rfl) (fun KK hK=>?_)
 go_simp
 refine(l6Body_any S.d (S.st:Int) sH sR sP sN sO ⟨aB,(bodS S).length,cB⟩ false g t0 HPA.out hP0 hP6 hHeld.2.2).mono ?_
 rintro e t1⟨rfl,hbC⟩
 have M1:Hid (MS t1 B S sH sR sP sN sO bv):=MD.out.below hbC
 have F1:Hid (Fm tsM B w t1):=FD.out.below hbC hBd
 have T1:PX x (x+1) #[.int .i64 S.d,.slice sH.a sH.n sH.c,.slice sR.a sR.n sR.c,.slice sP.a sP.n sP.c,.int .i64 (S.st:Int),.slice sN.a sN.n sN.c,.slice sO.a sO.n sO.c,.bool false] #[.int .i64 0,.slice none 0 0,.slice none 0 0,.slice none 0 0,.int .i64 0,.slice none 0 0,.slice none 0 0,.bool false] t1/\Cl t1 sb [.int .i64 2,.int .i64 0,.int .i64 0,.int .i64 0,.int .i64 0,.int .i64 0,.int .i64 0,.int .i64 cv,.int .i64 0,.int .i64 0,.int .i64 0]/\t1.cell? ⟨g,sP.n-1,none⟩=some (.slice aB (bodS S).length cB):=⟨hHeld.1.below hbC,hHeld.2.1.below hbC,(hbC.cell (p:=⟨g,sP.n-1,none⟩) hgd).trans hHeld.2.2⟩
 have hB1:B<=t1.heap.size:=by have:=hbC.size;omega
 have hg1:g<t1.heap.size:=by have:=hbC.size;omega
 clear hbC
 refine hK.out _ _ T1 (fun hHeld1=>?_)
 clear hK KK
 refine wpAnyL_tk 4 ?k4v rfl ?k4y ?k4r
 case k4y=>(intro w hSw;(try dsimp only at hSw);go_simp;try with_reducible rfl)
 try go_frame
 refine wpAnyL_tk 5 ?k5v rfl ?k5y ?k5r
 case k5y=>(intro w hSw;(try dsimp only at hSw);go_simp;try with_reducible rfl)
 try go_frame
 refine wpAnyL_call (i:=6) rfl (by kernel_rfl) (fun KK hK=>?_)
 go_simp
 obtain⟨t2,ht2,hbA,hnw⟩:∃y,t1.alloc (.cells #[.int .i64 ((bodS S).length:Int),.int .i64 0,.bool false] 96)=y/\Below t1.heap.size t1 y/\(∀j u,(ovL ⟨(bodS S).length,0,false⟩)[j]?=some u->y.cell? ((⟨t1.heap.size,0,none⟩:Addr).add j)=some u):=⟨_,rfl,(Below.refl _ _).alloc (Nat.le_refl _) _,cells_newZ _ _ _⟩
 rw[ht2]
 have M2:Hid (MS t2 B S sH sR sP sN sO bv):=M1.out.below hbA
 have F2:Hid (Fm tsM B w t2):=F1.out.below hbA hB1
 have T2:PX x (x+1) #[.int .i64 S.d,.slice sH.a sH.n sH.c,.slice sR.a sR.n sR.c,.slice sP.a sP.n sP.c,.int .i64 (S.st:Int),.slice sN.a sN.n sN.c,.slice sO.a sO.n sO.c,.bool false] #[.int .i64 0,.slice none 0 0,.slice none 0 0,.slice none 0 0,.int .i64 0,.slice none 0 0,.slice none 0 0,.bool false] t2/\Cl t2 sb [.int .i64 2,.int .i64 0,.int .i64 0,.int .i64 0,.int .i64 0,.int .i64 0,.int .i64 0,.int .i64 cv,.int .i64 0,.int .i64 0,.int .i64 0]/\t2.cell? ⟨g,sP.n-1,none⟩=some (.slice aB (bodS S).length cB):=⟨T1.1.below hbA,T1.2.1.below hbA,(hbA.cell (p:=⟨g,sP.n-1,none⟩) hg1).trans T1.2.2⟩
 have hB2:B<=t2.heap.size:=by have:=hbA.size;omega
 have hg2:g<t2.heap.size:=by have:=hbA.size;omega
 have NW:Hid _:=hnw
 clear ht2 hbA hnw
 refine hK.out _ _ T2 (fun hHeld2=>?_)
 clear hK KK
 try go_frame
 have OH:Hid (t2.ownsRow B 96 3 (.slice sO.a sO.n sO.c) S.op.length (S.op.reverse.flatMap ovL)):=M2.out.R.own 1 _ rfl
 obtain⟨v',w5,hrun,hown,hgrow,_,hat⟩:=run_append_own_at (P:=Tryz.prog) t2 B 43 43 96 iS _ 3 24 Tryz.underlying43 HIS.out.1 HIS.out.2.1 HIS.out.2.2.1 HIS.out.2.2.2 rfl (by decide) (.slice sO.a sO.n sO.c) S.op.length (S.op.reverse.flatMap ovL) OH.out ⟨t1.heap.size,0,none⟩ 1 1 (ovL ⟨(bodS S).length,0,false⟩) rfl NW.out (by simp[ovL,Value.oneCell']) (by unfold maxLen;omega) (by omega) hB2
 have F5:Hid (Fm tsM B t2 w5):=Fm.of_grow OH.out (Nat.le_refl _) hgrow hB2 (by decide)
 have T5:PX x (x+1) #[.int .i64 S.d,.slice sH.a sH.n sH.c,.slice sR.a sR.n sR.c,.slice sP.a sP.n sP.c,.int .i64 (S.st:Int),.slice sN.a sN.n sN.c,.slice sO.a sO.n sO.c,.bool false] #[.int .i64 0,.slice none 0 0,.slice none 0 0,.slice none 0 0,.int .i64 0,.slice none 0 0,.slice none 0 0,.bool false] w5/\Cl w5 sb [.int .i64 2,.int .i64 0,.int .i64 0,.int .i64 0,.int .i64 0,.int .i64 0,.int .i64 0,.int .i64 cv,.int .i64 0,.int .i64 0,.int .i64 0]/\w5.cell? ⟨g,sP.n-1,none⟩=some (.slice aB (bodS S).length cB):=⟨T2.1.fm F5.out,⟨Nat.lt_of_lt_of_le T2.2.1.1 hgrow.size,fun i hi=>(World.cell?_of_block (a:=⟨sb,i,none⟩) (hgrow.block sb T2.2.1.1 (fun e=>by have:=OLT.out sb e.symm;omega))).trans (T2.2.1.2 i hi)⟩,(World.cell?_of_block (a:=⟨g,sP.n-1,none⟩) (hgrow.block g hg2 (fun e=>M2.out.R.dis 1 4 _ _ (by omega) rfl rfl g e.symm (by show(Value.slice sP.a sP.n sP.c).ownBlock=some g;rw[HPA.out];rfl)))).trans T2.2.2⟩
 refine wpAnyL_appendZ (.tmp 41) (.tmp 46) (i:=7) rfl (by kernel_rfl) (by kernel_rfl) rfl rfl rfl hrun T5 (fun hHeld5=>?_)
 try go_frame
 refine wpAnyL_tk 8 ?k6v rfl ?k6y ?k6r
 case k6y=>(intro w hSw;(try dsimp only at hSw);go_simp;try with_reducible rfl)
 try go_frame
 obtain⟨ao5,cz5,hv5⟩:=row_sliceZ hown
 subst hv5
 have M5:Hid (MS0 w5 B {S with op:=⟨(bodS S).length,0,false⟩::S.op} sH sR sP sN ⟨ao5,S.op.length+1,cz5⟩ bv):=(⟨M2.out.pushO hgrow hown hat,M2.out.L⟩:MS0 w5 B {S with op:=⟨(bodS S).length,0,false⟩::S.op} sH sR sP sN ⟨ao5,S.op.length+1,cz5⟩ bv)
 have HI:Hid (Inv {addS S (⟨2,0,0,0,0,0,0,cv,0,0,0⟩:SV)with op:=⟨(bodS S).length,0,false⟩::S.op}):=M2.out.I.put (bodS S++[(⟨2,0,0,0,0,0,0,cv,0,0,0⟩:SV)]) (⟨(bodS S).length,0,false⟩::S.op) H3.out (fun q hq=>by
  rcases List.mem_cons.1 hq with rfl|hq
  ·simp
  ·have:=M2.out.I.ol q hq;simp;omega) (List.Pairwise.cons (fun q hq=>M2.out.I.ol q hq) M2.out.I.od)
 have HNE:Hid (S.ps≠[]):=M2.out.I.ps H3.out
 have P5:Hid (PX x (x+1) #[.int .i64 S.d,.slice sH.a sH.n sH.c,.slice sR.a sR.n sR.c,.slice sP.a sP.n sP.c,.int .i64 (S.st:Int),.slice sN.a sN.n sN.c,.slice sO.a sO.n sO.c,.bool false] #[.int .i64 0,.slice none 0 0,.slice none 0 0,.slice none 0 0,.int .i64 0,.slice none 0 0,.slice none 0 0,.bool false] w5):=T5.1
 have C5:Hid (Cl w5 sb [.int .i64 2,.int .i64 0,.int .i64 0,.int .i64 0,.int .i64 0,.int .i64 0,.int .i64 0,.int .i64 cv,.int .i64 0,.int .i64 0,.int .i64 0]):=T5.2.1
 have q6:=hp_cell T5.1.P 6
 simp only[List.getElem?_toArray,List.getElem?_cons_zero,List.getElem?_cons_succ]at q6
 have qf:=hp_frz T5.1.P
 have FF:Hid (Fm tsM B w w5):=F2.out.trans F5.out
 have hB5:B<=w5.heap.size:=by have:=hgrow.size;omega
 have hsx:x+1<sb:=by have:=HSB.out;have:=HXS.out;omega
 clear hown hgrow hat hrun OH F5 T5 hHeld hHeld1 hHeld2 hHeld5 T1 T2 M1 M2 F1 F2 NW MD FD r0 r1 r2 r3 r4 r5 r6 r7 HIS
 refine wpAnyL_store rfl (by kernel_rfl) (by kernel_rfl) (fun KK hK=>?_)
 go_simp
 refine hK.out _ _ ?_
 clear hK KK
 have P6:Hid (PX x (x+1) #[.int .i64 S.d,.slice sH.a sH.n sH.c,.slice sR.a sR.n sR.c,.slice sP.a sP.n sP.c,.int .i64 (S.st:Int),.slice sN.a sN.n sN.c,.slice ao5 (S.op.length+1) cz5,.bool false] #[.int .i64 0,.slice none 0 0,.slice none 0 0,.slice none 0 0,.int .i64 0,.slice none 0 0,.slice none 0 0,.bool false] (w5.setCell ⟨x,6,none⟩ (.slice ao5 (S.op.length+1) cz5))):=P5.out.setP 6 _
 have M6:Hid (MS0 (w5.setCell ⟨x,6,none⟩ (.slice ao5 (S.op.length+1) cz5)) B {S with op:=⟨(bodS S).length,0,false⟩::S.op} sH sR sP sN ⟨ao5,S.op.length+1,cz5⟩ bv):=M5.out.setP P5.out 6 _
 have F6:Hid (Fm tsM B w (w5.setCell ⟨x,6,none⟩ (.slice ao5 (S.op.length+1) cz5))):=FF.out.setNew (a:=⟨x,6,none⟩) (by have:=HX.out;show _<=x;omega) hBx _
 have C6:Cl (w5.setCell ⟨x,6,none⟩ (.slice ao5 (S.op.length+1) cz5)) sb [.int .i64 2,.int .i64 0,.int .i64 0,.int .i64 0,.int .i64 0,.int .i64 0,.int .i64 0,.int .i64 cv,.int .i64 0,.int .i64 0,.int .i64 0]:=⟨by simpa using C5.out.1,fun i hi=>(World.cell?_of_block (a:=⟨sb,i,none⟩) (Below.heap_setCell w5 ⟨x,6,none⟩ _ sb (by show sb≠x;omega))).trans (C5.out.2 i hi)⟩
 have hB6:B<=(w5.setCell ⟨x,6,none⟩ (.slice ao5 (S.op.length+1) cz5)).heap.size:=by simpa using hB5
 clear P5 M5 FF C5 q6 qf
 generalize w5.setCell ⟨x,6,none⟩ (.slice ao5 (S.op.length+1) cz5)=u6 at P6 M6 F6 C6 hB6⊢
 obtain⟨c0,c1,c2,c3,c4,c5,c6,c7⟩:=hp8 P6.out.P
 have k0:u6.cell? ⟨sb,0,none⟩=some (.int .i64 2):=C6.2 0 (by simp)
 have k1:u6.cell? ⟨sb,1,none⟩=some (.int .i64 0):=C6.2 1 (by simp)
 have k2:u6.cell? ⟨sb,2,none⟩=some (.int .i64 0):=C6.2 2 (by simp)
 have k3:u6.cell? ⟨sb,3,none⟩=some (.int .i64 0):=C6.2 3 (by simp)
 have k4:u6.cell? ⟨sb,4,none⟩=some (.int .i64 0):=C6.2 4 (by simp)
 have k5:u6.cell? ⟨sb,5,none⟩=some (.int .i64 0):=C6.2 5 (by simp)
 have k6:u6.cell? ⟨sb,6,none⟩=some (.int .i64 0):=C6.2 6 (by simp)
 have k7:u6.cell? ⟨sb,7,none⟩=some (.int .i64 cv):=C6.2 7 (by simp)
 have k8:u6.cell? ⟨sb,8,none⟩=some (.int .i64 0):=C6.2 8 (by simp)
 have k9:u6.cell? ⟨sb,9,none⟩=some (.int .i64 0):=C6.2 9 (by simp)
 have k10:u6.cell? ⟨sb,10,none⟩=some (.int .i64 0):=C6.2 10 (by simp)
 clear C6
 go_wp2_with fail
 refine(l6Put_op B S (⟨(bodS S).length,0,false⟩::S.op) sH sR sP sN ⟨ao5,S.op.length+1,cz5⟩ bv 2 cv 0 0 0 0 0 0 0 u6 hB6 M6.out HNE.out HI.out hbl hp).mono ?_
 rintro e u9⟨bv9,f9',rfl,m9⟩
 have P9:Hid (PX x (x+1) #[.int .i64 S.d,.slice sH.a sH.n sH.c,.slice sR.a sR.n sR.c,.slice sP.a sP.n sP.c,.int .i64 (S.st:Int),.slice sN.a sN.n sN.c,.slice ao5 (S.op.length+1) cz5,.bool false] #[.int .i64 0,.slice none 0 0,.slice none 0 0,.slice none 0 0,.int .i64 0,.slice none 0 0,.slice none 0 0,.bool false] u9):=P6.out.fm f9'
 have F9:Hid (Fm tsM B w u9):=F6.out.trans f9'
 have M9:Hid (MS u9 B {addS S (⟨2,0,0,0,0,0,0,cv,0,0,0⟩:SV)with op:=⟨(bodS S).length,0,false⟩::S.op} sH sR sP sN ⟨ao5,S.op.length+1,cz5⟩ bv9):=m9
 clear f9' m9
 obtain⟨z0,z1,z2,z3,z4,z5,z6,z7⟩:=hp8 P9.out.R
 have f9:=hp_frz P9.out.R
 go_wp2
 refine bodyPost_ret (v:=.agg #[.int .i64 S.d,.slice sH.a sH.n sH.c,.slice sR.a sR.n sR.c,.slice sP.a sP.n sP.c,.int .i64 (S.st:Int),.slice sN.a sN.n sN.c,.slice ao5 (S.op.length+1) cz5,.bool false]) (by simp[results,Tryz.results25,go_sem,z0,z1,z2,z3,z4,z5,z6,z7]) rfl ?_
 unfold MR
 rw[HR.out]
 exact⟨F9.out.put8 (by have:=HX.out;omega) (by omega) _ _ _ _ _ _ _ _,sH,sR,sP,sN,⟨ao5,S.op.length+1,cz5⟩,_,rfl,M9.out.put8 P9.out _ _ _ _ _ _ _ _⟩
end Go.Proofs.YtblfmpgdhpbffaaGreatDoor
