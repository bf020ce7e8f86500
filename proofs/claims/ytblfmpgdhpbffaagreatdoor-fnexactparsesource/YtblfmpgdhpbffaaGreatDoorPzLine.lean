import Derived.Test.YtblfmpgdhpbffaaGreatDoorPzRegM
import Derived.Test.YtblfmpgdhpbffaaGreatDoorPzStm1
import Derived.Test.YtblfmpgdhpbffaaGreatDoorPzStm2
import Derived.Test.YtblfmpgdhpbffaaGreatDoorOfPzStm5
import Derived.Test.YtblfmpgdhpbffaaGreatDoorPzStm6
set_option maxHeartbeats 12800000
set_option maxRecDepth 20000
namespace Go.Proofs.YtblfmpgdhpbffaaGreatDoor
open Go.RowKit
theorem l6Stmt_any(B:Nat)(S:PS)(sH sR sP sN sO:Sl)(bv:List Value)(l:List UInt8)(f:List (List UInt8))(fb fc:Nat)(w:World)(hB:B<=w.heap.size)(hm:MS w B S sH sR sP sN sO bv)(h3:S.st=3)(hbl:(bodS S).length<=1000000)(hp:S.ps.length<=1000000)(ho6:S.op.length<=1000000)(hth:∀o∈S.op,0<=o.th/\o.th<=1000000)(hf:FA w fb f)(hl:∀i,((stB (fd f i)).size:Int)<=200000)(hll:((stB l).size:Int)<=200000)(hne:0<f.length)(hlf:f.length<=200001):
 Calls Tryz.prog 25 #[.agg #[.int .i64 S.d,.slice sH.a sH.n sH.c,.slice sR.a sR.n sR.c,.slice sP.a sP.n sP.c,.int .i64 (S.st:Int),.slice sN.a sN.n sN.c,.slice sO.a sO.n sO.c,.bool false],.string (stB l),.slice (some ⟨fb,0,none⟩) f.length fc] w fun e w'=>MR B w (stmS S l f) e w':=by
 by_cases h_0:fd f 0=[105,102]
 ·exact l6Stmt_if B S sH sR sP sN sO bv l f fb fc w hB hm h3 hbl hp ho6 hth hf hl hll hne hlf h_0
 by_cases h_1:fd f 0=[119,104,105,108,101]
 ·exact l6Stmt_while B S sH sR sP sN sO bv l f fb fc w hB hm h3 hbl hp ho6 hth hf hl hll hne hlf h_1
 by_cases h_2:fd f 0=[101,108,115,101]
 ·exact l6Stmt_else B S sH sR sP sN sO bv l f fb fc w hB hm h3 hbl hp ho6 hth hf hl hll hne hlf h_2
 by_cases h_3:fd f 0=[101,110,100]
 ·exact l6Stmt_end B S sH sR sP sN sO bv l f fb fc w hB hm h3 hbl hp ho6 hth hf hl hll hne hlf h_3
 by_cases h_4:fd f 0=[99,97,108,108]
 ·exact l6Stmt_call B S sH sR sP sN sO bv l f fb fc w hB hm h3 hbl hp ho6 hth hf hl hll hne hlf h_4
 exact l6Stmt_ins B S sH sR sP sN sO bv l f fb fc w hB hm h3 hbl hp ho6 hth hf hl hll hne hlf ⟨h_0,h_1,h_2,h_3,h_4⟩
theorem fld_flen:∀(l f:List UInt8),f∈fldS l->f.length<=l.length
 |[],f,hf=>by
  have:f=[]:=by simpa[fldS]using hf
  subst this;simp
 |c::l,f,hf=>by
  unfold fldS at hf;split at hf
  ·rcases List.mem_cons.1 hf with rfl|hf
   ·simp
   ·have:=fld_flen l f hf;simp;omega
  ·split at hf
   ·exact absurd ‹_› (fld_ne l)
   ·rename_i g gs hg
    rcases List.mem_cons.1 hf with rfl|hf
    ·have:=fld_flen l g (by rw[hg];simp);simp;omega
    ·have:=fld_flen l f (by rw[hg];simp[hf]);simp;omega
theorem diaW_cases(l:List UInt8):(l=[103,97,115]/\diaW l=some 0)∨(l=[109,97,115,109]/\diaW l=some 1)∨(l≠[103,97,115]/\l≠[109,97,115,109]/\diaW l=none):=by
 unfold diaW;by_cases h1:l=[103,97,115]
 ·exact .inl ⟨h1,by rw[if_pos h1]⟩
 ·by_cases h2:l=[109,97,115,109]
  ·exact .inr (.inl ⟨h2,by rw[if_neg h1,if_pos h2]⟩)
  ·exact .inr (.inr ⟨h1,h2,by rw[if_neg h1,if_neg h2]⟩)
theorem info_procZ:(Tryz.prog.info? 68).map (fun i=>(i.zero,i.size,i.bytes))=some (some (.agg #[.slice none 0 0]),1,24):=by kernel_rfl
theorem fa_row{w:World}{B fb n c:Nat}{f:List (List UInt8)}(h:w.ownsRow B 9 1 (.slice (some ⟨fb,0,none⟩) n c) f.length (lnC f)):FA w fb f:=by
 rcases h.2 with⟨h',_⟩|⟨g,cap,cur,h',_,hh,_,_,_,ht⟩
 ·cases h'
 ·injection h' with e1 e2 e3
  injection e1 with e1;injection e1 with e1;subst e1;refine⟨cur,hh,fun i hi=>?_⟩;have e:cur[i]?=(lnC f)[i]?:=by
   rw[<-ht,List.getElem?_take,if_pos (by omega)];simp
  rw[e];unfold lnC fd;rw[List.getElem?_map,List.getElem?_eq_getElem hi,List.getD_eq_getElem?_getD,List.getElem?_eq_getElem hi];rfl
theorem l6Line_any(B:Nat)(S:PS)(sH sR sP sN sO:Sl)(bv:List Value)(l:List UInt8)(w:World)(hB:B<=w.heap.size)(hm:MS w B S sH sR sP sN sO bv)(hbl:(bodS S).length<=1000000)(hp:S.ps.length<=1000000)(ho6:S.op.length<=1000000)(hth:∀o∈S.op,0<=o.th/\o.th<=1000000)(hll:(l.length:Int)<=199999)(hdz:S.st=0->S.d=0):
 Calls Tryz.prog 14 #[.agg #[.int .i64 S.d,.slice sH.a sH.n sH.c,.slice sR.a sR.n sR.c,.slice sP.a sP.n sP.c,.int .i64 (S.st:Int),.slice sN.a sN.n sN.c,.slice sO.a sO.n sO.c,.bool false],.string (stB l)] w fun e w'=>MR B w (linS S l) e w':=by
 obtain⟨RR,hRR⟩:∃y,linS S l=y:=⟨_,rfl⟩
 rw[hRR]
 have HRR:Hid (linS S l=RR):=hRR
 have M:Hid (MS w B S sH sR sP sN sO bv):=hm
 have HTH:Hid (∀o∈S.op,0<=o.th/\o.th<=1000000):=hth
 have HNO:Hid (sO.n=S.op.length):=row_n (hm.R.own 1 _ rfl)
 have hsz:((stB l).size:Int)<=200000:=by have:(stB l).size=l.length:=by simp[stB,ByteArray.size]
                                         omega
 have hst4:=hm.I.st
 have HDZ:Hid (S.st=0->S.d=0):=hdz
 clear hm hth hRR hdz
 go_enter Tryz.func14,Tryz.ntmps14
 go_upto_region 1 with fail
 obtain⟨u,hu,p0,bu⟩:∃y,((w.alloc (.cells #[.int .i64 S.d,.slice sH.a sH.n sH.c,.slice sR.a sR.n sR.c,.slice sP.a sP.n sP.c,.int .i64 (S.st:Int),.slice sN.a sN.n sN.c,.slice sO.a sO.n sO.c,.bool false] 45)).alloc (.cells #[.int .i64 0,.slice none 0 0,.slice none 0 0,.slice none 0 0,.int .i64 0,.slice none 0 0,.slice none 0 0,.bool false] 45))=y/\PX w.heap.size (w.heap.size+1) #[.int .i64 S.d,.slice sH.a sH.n sH.c,.slice sR.a sR.n sR.c,.slice sP.a sP.n sP.c,.int .i64 (S.st:Int),.slice sN.a sN.n sN.c,.slice sO.a sO.n sO.c,.bool false] #[.int .i64 0,.slice none 0 0,.slice none 0 0,.slice none 0 0,.int .i64 0,.slice none 0 0,.slice none 0 0,.bool false] y/\Below w.heap.size w y:=⟨_,rfl,px_new w _ _,two_below w _ _⟩
 rw[hu];obtain⟨x,hx⟩:∃y,w.heap.size=y:=⟨_,rfl⟩
 rw[hx]at p0⊢;have HX:Hid (w.heap.size=x):=hx;have P0:Hid (PX x (x+1) #[.int .i64 S.d,.slice sH.a sH.n sH.c,.slice sR.a sR.n sR.c,.slice sP.a sP.n sP.c,.int .i64 (S.st:Int),.slice sN.a sN.n sN.c,.slice sO.a sO.n sO.c,.bool false] #[.int .i64 0,.slice none 0 0,.slice none 0 0,.slice none 0 0,.int .i64 0,.slice none 0 0,.slice none 0 0,.bool false] u):=p0;have F0:Hid (Fm tsM B w u):=Fm.of_below bu hB;have M0:Hid (MS u B S sH sR sP sN sO bv):=M.out.below bu;have hBx:B<=x:=by omega
 have hBu:B<=u.heap.size:=by have:=bu.size;omega
 have HXS:Hid (x+1<u.heap.size):=(Array.getElem?_eq_some_iff.1 p0.R).1;clear hu hx p0 bu M;go_wp2_with fail;refine(l6Fields_any (stB l) u hsz).mono ?_;rintro e u2⟨v,rfl,hrow,hb2⟩;have hsl:(stB l).data.toList=l:=by simp[stB]
 rw[hsl]at hrow;obtain⟨f,hfe⟩:∃y,fldS l=y:=⟨_,rfl⟩
 have HFE:Hid (fldS l=f):=hfe;have hne:0<f.length:=by
  rcases hq:f with _|⟨a,b⟩
  ·rw[hq]at hfe;exact absurd hfe (fld_ne l)
  ·simp
 have hlf:f.length<=200000:=by rw[<-hfe];have:=fld_len l;omega
 have HL:Hid (∀i,((stB (fd f i)).size:Int)<=200000):=(fun i=>by
  have h1:(stB (fd f i)).size=(fd f i).length:=by simp[stB,ByteArray.size]
  rw[h1];by_cases hi:i<f.length
  ·have hmem:fd f i∈fldS l:=by rw[hfe];unfold fd;rw[List.getD_eq_getElem?_getD,List.getElem?_eq_getElem hi];simp
   have:=fld_flen l _ hmem;omega
  ·have:fd f i=[]:=by unfold fd;rw[List.getD_eq_getElem?_getD,List.getElem?_eq_none (by omega)];rfl
   rw[this];simp:∀i,((stB (fd f i)).size:Int)<=200000)
 rw[hfe]at hrow;obtain⟨fb,fc,hv,_,lfb,hcf⟩:=row_someZ hrow hne;subst hv;have A2:Hid (FA u2 fb f):=fa_row hrow;have P2:Hid (PX x (x+1) #[.int .i64 S.d,.slice sH.a sH.n sH.c,.slice sR.a sR.n sR.c,.slice sP.a sP.n sP.c,.int .i64 (S.st:Int),.slice sN.a sN.n sN.c,.slice sO.a sO.n sO.c,.bool false] #[.int .i64 0,.slice none 0 0,.slice none 0 0,.slice none 0 0,.int .i64 0,.slice none 0 0,.slice none 0 0,.bool false] u2):=P0.out.below hb2;have M2:Hid (MS u2 B S sH sR sP sN sO bv):=M0.out.below hb2;have F2:Hid (Fm tsM B w u2):=F0.out.below hb2 hBu;have hBu2:B<=u2.heap.size:=by have:=hb2.size;omega
 have e0:(0:Int)<(f.length:Int):=by omega
 have HLN:Hid (linS S l=RR/\fldS l=f):=⟨HRR.out,hfe⟩
 clear hrow hb2 hfe hsl P0 M0 F0;obtain⟨s0,hs0⟩:∃y,stB (fd f 0)=y:=⟨_,rfl⟩
 have HS0:Hid (stB (fd f 0)=s0):=hs0;have g0:u2.cell? ⟨fb,0,none⟩=some (.string s0):=(A2.out.cell 0 hne).trans (by rw[hs0]);clear hs0;obtain⟨c0,c1,c2,c3,c4,c5,c6,c7⟩:=hp8 P2.out.P;by_cases h_0:fd f 0=[100,105,97,108,101,99,116]
 ·obtain⟨q0,q0'⟩:=beqT HS0.out h_0
  have HSO:Hid (RR=diaS S f):=(by rw[<-HLN.out.1];unfold linS;rw[HLN.out.2,if_pos h_0]:RR=diaS S f)
  clear h_0;by_cases h0:S.st=0
  rotate_left
  ·have e1:((S.st:Int) !=0)=true:=by rw[bne_iff_ne];omega
   have HR:Hid (RR=none):=(by rw[HSO.out];unfold diaS;rw[if_neg (fun h=>h0 h.1)]:RR=none)
   clear h0;go_wp2_with fail;refine(l6Bad_any S.d (S.st:Int) sH sR sP sN sO false u2).mono ?_;rintro e u9⟨rfl,hb9⟩;have P9:=P2.out.below hb9;have F9:Hid (Fm tsM B w u9):=F2.out.below hb9 hBu2;obtain⟨z0,z1,z2,z3,z4,z5,z6,z7⟩:=hp8 P9.R;have f9:=hp_frz P9.R;clear hb9;go_wp2;refine bodyPost_ret (v:=.agg #[.int .i64 S.d,.slice sH.a sH.n sH.c,.slice sR.a sR.n sR.c,.slice sP.a sP.n sP.c,.int .i64 (S.st:Int),.slice sN.a sN.n sN.c,.slice sO.a sO.n sO.c,.bool true]) (by simp[results,Tryz.results14,go_sem,z0,z1,z2,z3,z4,z5,z6,z7]) rfl ?_;unfold MR;rw[HR.out];exact⟨F9.out.put8 (by have:=HX.out;omega) (by omega) _ _ _ _ _ _ _ _,S.d,(S.st:Int),sH,sR,sP,sN,sO,rfl⟩
  have e1:((S.st:Int) !=0)=false:=by rw[bne_eq_false_iff_eq];omega
  have H0:Hid (S.st=0):=h0;clear h0;by_cases h2:f.length=2
  rotate_left
  ·have e2:((f.length:Int) !=2)=true:=by rw[bne_iff_ne];omega
   have HR:Hid (RR=none):=(by rw[HSO.out];unfold diaS;rw[if_neg (fun h=>h2 h.2)]:RR=none)
   clear h2;go_wp2_with fail;refine(l6Bad_any S.d (S.st:Int) sH sR sP sN sO false u2).mono ?_;rintro e u9⟨rfl,hb9⟩;have P9:=P2.out.below hb9;have F9:Hid (Fm tsM B w u9):=F2.out.below hb9 hBu2;obtain⟨z0,z1,z2,z3,z4,z5,z6,z7⟩:=hp8 P9.R;have f9:=hp_frz P9.R;clear hb9;go_wp2;refine bodyPost_ret (v:=.agg #[.int .i64 S.d,.slice sH.a sH.n sH.c,.slice sR.a sR.n sR.c,.slice sP.a sP.n sP.c,.int .i64 (S.st:Int),.slice sN.a sN.n sN.c,.slice sO.a sO.n sO.c,.bool true]) (by simp[results,Tryz.results14,go_sem,z0,z1,z2,z3,z4,z5,z6,z7]) rfl ?_;unfold MR;rw[HR.out];exact⟨F9.out.put8 (by have:=HX.out;omega) (by omega) _ _ _ _ _ _ _ _,S.d,(S.st:Int),sH,sR,sP,sN,sO,rfl⟩
  have e2:((f.length:Int) !=2)=false:=by rw[bne_eq_false_iff_eq];omega
  have e3:(1:Int)<(f.length:Int):=by omega
  obtain⟨s1,hs1⟩:∃y,stB (fd f 1)=y:=⟨_,rfl⟩
  have HS1:Hid (stB (fd f 1)=s1):=hs1;have g1:u2.cell? ⟨fb,1,none⟩=some (.string s1):=(A2.out.cell 1 (by omega)).trans (by rw[hs1]);have H2:Hid (f.length=2):=h2;have cf:=hp_frz P2.out.P;clear h2 hs1;rcases diaW_cases (fd f 1)with⟨w1,k1⟩|⟨w1,k1⟩|⟨w1,w1',k1⟩
  ·obtain⟨q1,q1'⟩:=beqT HS1.out w1
   obtain⟨q2,q2'⟩:=beqF (a:=[109,97,115,109]) HS1.out (by rw[w1];decide);have HD0:Hid (S.d=0):=HDZ.out H0.out;have HR:Hid (RR=some {S with d:=0,st:=1}):=(by rw[HSO.out];unfold diaS;rw[if_pos ⟨H0.out,H2.out⟩,k1];rfl:RR=some {S with d:=0,st:=1})
   clear w1 k1;go_upto_region 9 with fail;obtain⟨u3,hu3,p3,m3,f3⟩:∃y,u2.setCell ⟨x,4,none⟩ (.int .i64 1)=y/\PX x (x+1) #[.int .i64 S.d,.slice sH.a sH.n sH.c,.slice sR.a sR.n sR.c,.slice sP.a sP.n sP.c,.int .i64 1,.slice sN.a sN.n sN.c,.slice sO.a sO.n sO.c,.bool false] #[.int .i64 0,.slice none 0 0,.slice none 0 0,.slice none 0 0,.int .i64 0,.slice none 0 0,.slice none 0 0,.bool false] y/\MS y B S sH sR sP sN sO bv/\Fm tsM B w y:=⟨_,rfl,P2.out.setP 4 _,M2.out.setP P2.out 4 _,F2.out.setNew (a:=⟨x,4,none⟩) (by have:=HX.out;show _<=x;omega) hBx _⟩
   rw[hu3];have P3:Hid (PX x (x+1) #[.int .i64 0,.slice sH.a sH.n sH.c,.slice sR.a sR.n sR.c,.slice sP.a sP.n sP.c,.int .i64 1,.slice sN.a sN.n sN.c,.slice sO.a sO.n sO.c,.bool false] #[.int .i64 0,.slice none 0 0,.slice none 0 0,.slice none 0 0,.int .i64 0,.slice none 0 0,.slice none 0 0,.bool false] u3):=(by rw[HD0.out]at p3;exact p3:PX x (x+1) #[.int .i64 0,.slice sH.a sH.n sH.c,.slice sR.a sR.n sR.c,.slice sP.a sP.n sP.c,.int .i64 1,.slice sN.a sN.n sN.c,.slice sO.a sO.n sO.c,.bool false] #[.int .i64 0,.slice none 0 0,.slice none 0 0,.slice none 0 0,.int .i64 0,.slice none 0 0,.slice none 0 0,.bool false] u3)
   have M3:Hid (MS u3 B {S with d:=0,st:=1} sH sR sP sN sO bv):=(⟨m3.R,m3.L,⟨by show 1<=3;omega,.inl rfl,m3.I.hs,m3.I.rg,m3.I.gv,fun e=>absurd e (by show¬1=3;omega),fun _=>m3.I.op (by have:=H0.out;omega),m3.I.ol,m3.I.od⟩⟩:MS u3 B {S with d:=0,st:=1} sH sR sP sN sO bv)
   have F3:Hid (Fm tsM B w u3):=f3;clear hu3 p3 m3 f3 c0 c1 c2 c3 c4 c5 c6 c7 P2 M2 F2 cf;obtain⟨y0,y1,y2,y3,y4,y5,y6,y7⟩:=hp8 P3.out.P;obtain⟨z0,z1,z2,z3,z4,z5,z6,z7⟩:=hp8 P3.out.R;have f9:=hp_frz P3.out.R;go_wp2;refine bodyPost_ret (v:=.agg #[.int .i64 0,.slice sH.a sH.n sH.c,.slice sR.a sR.n sR.c,.slice sP.a sP.n sP.c,.int .i64 1,.slice sN.a sN.n sN.c,.slice sO.a sO.n sO.c,.bool false]) (by simp[results,Tryz.results14,go_sem,z0,z1,z2,z3,z4,z5,z6,z7]) rfl ?_;unfold MR;rw[HR.out];exact⟨F3.out.put8 (by have:=HX.out;omega) (by omega) _ _ _ _ _ _ _ _,sH,sR,sP,sN,sO,bv,rfl,M3.out.put8 P3.out _ _ _ _ _ _ _ _⟩
  ·obtain⟨q1,q1'⟩:=beqF (a:=[103,97,115]) HS1.out (by rw[w1];decide)
   obtain⟨q2,q2'⟩:=beqT HS1.out w1;have HR:Hid (RR=some {S with d:=1,st:=1}):=(by rw[HSO.out];unfold diaS;rw[if_pos ⟨H0.out,H2.out⟩,k1];rfl:RR=some {S with d:=1,st:=1})
   clear w1 k1;go_upto_region 9 with fail;obtain⟨u3,hu3,p3,m3,f3⟩:∃y,(u2.setCell ⟨x,0,none⟩ (.int .i64 1)).setCell ⟨x,4,none⟩ (.int .i64 1)=y/\PX x (x+1) #[.int .i64 1,.slice sH.a sH.n sH.c,.slice sR.a sR.n sR.c,.slice sP.a sP.n sP.c,.int .i64 1,.slice sN.a sN.n sN.c,.slice sO.a sO.n sO.c,.bool false] #[.int .i64 0,.slice none 0 0,.slice none 0 0,.slice none 0 0,.int .i64 0,.slice none 0 0,.slice none 0 0,.bool false] y/\MS y B S sH sR sP sN sO bv/\Fm tsM B w y:=⟨_,rfl,(P2.out.setP 0 _).setP 4 _,(M2.out.setP P2.out 0 _).setP (P2.out.setP 0 _) 4 _,(F2.out.setNew (a:=⟨x,0,none⟩) (by have:=HX.out;show _<=x;omega) hBx _).setNew (a:=⟨x,4,none⟩) (by have:=HX.out;show _<=x;omega) hBx _⟩
   rw[hu3];have P3:Hid (PX x (x+1) #[.int .i64 1,.slice sH.a sH.n sH.c,.slice sR.a sR.n sR.c,.slice sP.a sP.n sP.c,.int .i64 1,.slice sN.a sN.n sN.c,.slice sO.a sO.n sO.c,.bool false] #[.int .i64 0,.slice none 0 0,.slice none 0 0,.slice none 0 0,.int .i64 0,.slice none 0 0,.slice none 0 0,.bool false] u3):=p3;have M3:Hid (MS u3 B {S with d:=1,st:=1} sH sR sP sN sO bv):=(⟨m3.R,m3.L,⟨by show 1<=3;omega,.inr rfl,m3.I.hs,m3.I.rg,m3.I.gv,fun e=>absurd e (by show¬1=3;omega),fun _=>m3.I.op (by have:=H0.out;omega),m3.I.ol,m3.I.od⟩⟩:MS u3 B {S with d:=1,st:=1} sH sR sP sN sO bv)
   have F3:Hid (Fm tsM B w u3):=f3;clear hu3 p3 m3 f3 c0 c1 c2 c3 c4 c5 c6 c7 P2 M2 F2 cf;obtain⟨y0,y1,y2,y3,y4,y5,y6,y7⟩:=hp8 P3.out.P;obtain⟨z0,z1,z2,z3,z4,z5,z6,z7⟩:=hp8 P3.out.R;have f9:=hp_frz P3.out.R;go_wp2;refine bodyPost_ret (v:=.agg #[.int .i64 1,.slice sH.a sH.n sH.c,.slice sR.a sR.n sR.c,.slice sP.a sP.n sP.c,.int .i64 1,.slice sN.a sN.n sN.c,.slice sO.a sO.n sO.c,.bool false]) (by simp[results,Tryz.results14,go_sem,z0,z1,z2,z3,z4,z5,z6,z7]) rfl ?_;unfold MR;rw[HR.out];exact⟨F3.out.put8 (by have:=HX.out;omega) (by omega) _ _ _ _ _ _ _ _,sH,sR,sP,sN,sO,bv,rfl,M3.out.put8 P3.out _ _ _ _ _ _ _ _⟩
  ·obtain⟨q1,q1'⟩:=beqF HS1.out w1
   obtain⟨q2,q2'⟩:=beqF HS1.out w1';have HR:Hid (RR=none):=(by rw[HSO.out];unfold diaS;rw[if_pos ⟨H0.out,H2.out⟩,k1];rfl:RR=none)
   clear w1 w1' k1;go_wp2_with fail;refine(l6Bad_any S.d (S.st:Int) sH sR sP sN sO false u2).mono ?_;rintro e u9⟨rfl,hb9⟩;have P9:=P2.out.below hb9;have F9:Hid (Fm tsM B w u9):=F2.out.below hb9 hBu2;obtain⟨z0,z1,z2,z3,z4,z5,z6,z7⟩:=hp8 P9.R;have f9:=hp_frz P9.R;clear hb9;go_wp2;refine bodyPost_ret (v:=.agg #[.int .i64 S.d,.slice sH.a sH.n sH.c,.slice sR.a sR.n sR.c,.slice sP.a sP.n sP.c,.int .i64 (S.st:Int),.slice sN.a sN.n sN.c,.slice sO.a sO.n sO.c,.bool true]) (by simp[results,Tryz.results14,go_sem,z0,z1,z2,z3,z4,z5,z6,z7]) rfl ?_;unfold MR;rw[HR.out];exact⟨F9.out.put8 (by have:=HX.out;omega) (by omega) _ _ _ _ _ _ _ _,S.d,(S.st:Int),sH,sR,sP,sN,sO,rfl⟩
 by_cases h_1:fd f 0=[104,101,97,112]
 ·obtain⟨q0,q0'⟩:=beqT HS0.out h_1
  obtain⟨n0,n0'⟩:=beqF (a:=[100,105,97,108,101,99,116]) HS0.out h_0;have HSO:Hid (RR=heapS S f):=(by rw[<-HLN.out.1];unfold linS;rw[HLN.out.2,if_neg h_0,if_pos h_1]:RR=heapS S f)
  clear h_0 h_1;go_wp2_with fail;refine(l6Heap_any B S sH sR sP sN sO bv f fb fc u2 hBu2 M2.out A2.out HL.out).mono ?_;rintro e u9⟨hf9,he⟩;have P9:Hid (PX x (x+1) #[.int .i64 S.d,.slice sH.a sH.n sH.c,.slice sR.a sR.n sR.c,.slice sP.a sP.n sP.c,.int .i64 (S.st:Int),.slice sN.a sN.n sN.c,.slice sO.a sO.n sO.c,.bool false] #[.int .i64 0,.slice none 0 0,.slice none 0 0,.slice none 0 0,.int .i64 0,.slice none 0 0,.slice none 0 0,.bool false] u9):=P2.out.fm hf9;have F9:Hid (Fm tsM B w u9):=F2.out.trans hf9;clear hf9;rw[<-HSO.out]at he;cases RR with
  |none=>
   obtain⟨d9,st9,qH,qR,qP,qN,qO,rfl⟩:=he;obtain⟨z0,z1,z2,z3,z4,z5,z6,z7⟩:=hp8 P9.out.R;have f9:=hp_frz P9.out.R;go_wp2;refine bodyPost_ret (v:=.agg #[.int .i64 d9,.slice qH.a qH.n qH.c,.slice qR.a qR.n qR.c,.slice qP.a qP.n qP.c,.int .i64 st9,.slice qN.a qN.n qN.c,.slice qO.a qO.n qO.c,.bool true]) (by simp[results,Tryz.results14,go_sem,z0,z1,z2,z3,z4,z5,z6,z7]) rfl ?_;exact⟨F9.out.put8 (by have:=HX.out;omega) (by omega) _ _ _ _ _ _ _ _,d9,st9,qH,qR,qP,qN,qO,rfl⟩
  |some S'=>
   obtain⟨qH,qR,qP,qN,qO,bq,rfl,hmq⟩:=he;have M9:Hid (MS u9 B S' qH qR qP qN qO bq):=hmq;clear hmq;obtain⟨z0,z1,z2,z3,z4,z5,z6,z7⟩:=hp8 P9.out.R;have f9:=hp_frz P9.out.R;go_wp2;refine bodyPost_ret (v:=.agg #[.int .i64 S'.d,.slice qH.a qH.n qH.c,.slice qR.a qR.n qR.c,.slice qP.a qP.n qP.c,.int .i64 (S'.st:Int),.slice qN.a qN.n qN.c,.slice qO.a qO.n qO.c,.bool false]) (by simp[results,Tryz.results14,go_sem,z0,z1,z2,z3,z4,z5,z6,z7]) rfl ?_;exact⟨F9.out.put8 (by have:=HX.out;omega) (by omega) _ _ _ _ _ _ _ _,qH,qR,qP,qN,qO,bq,rfl,M9.out.put8 P9.out _ _ _ _ _ _ _ _⟩
 by_cases h_2:fd f 0=[114,101,103]
 ·obtain⟨q0,q0'⟩:=beqT HS0.out h_2
  obtain⟨n0,n0'⟩:=beqF (a:=[100,105,97,108,101,99,116]) HS0.out h_0;obtain⟨n1,n1'⟩:=beqF (a:=[104,101,97,112]) HS0.out h_1;have HSO:Hid (RR=regS S f):=(by rw[<-HLN.out.1];unfold linS;rw[HLN.out.2,if_neg h_0,if_neg h_1,if_pos h_2]:RR=regS S f)
  clear h_0 h_1 h_2;go_wp2_with fail;refine(l6Reg_any B S sH sR sP sN sO bv f fb fc u2 hBu2 M2.out A2.out HL.out hlf).mono ?_;rintro e u9⟨hf9,he⟩;have P9:Hid (PX x (x+1) #[.int .i64 S.d,.slice sH.a sH.n sH.c,.slice sR.a sR.n sR.c,.slice sP.a sP.n sP.c,.int .i64 (S.st:Int),.slice sN.a sN.n sN.c,.slice sO.a sO.n sO.c,.bool false] #[.int .i64 0,.slice none 0 0,.slice none 0 0,.slice none 0 0,.int .i64 0,.slice none 0 0,.slice none 0 0,.bool false] u9):=P2.out.fm hf9;have F9:Hid (Fm tsM B w u9):=F2.out.trans hf9;clear hf9;rw[<-HSO.out]at he;cases RR with
  |none=>
   obtain⟨d9,st9,qH,qR,qP,qN,qO,rfl⟩:=he;obtain⟨z0,z1,z2,z3,z4,z5,z6,z7⟩:=hp8 P9.out.R;have f9:=hp_frz P9.out.R;go_wp2;refine bodyPost_ret (v:=.agg #[.int .i64 d9,.slice qH.a qH.n qH.c,.slice qR.a qR.n qR.c,.slice qP.a qP.n qP.c,.int .i64 st9,.slice qN.a qN.n qN.c,.slice qO.a qO.n qO.c,.bool true]) (by simp[results,Tryz.results14,go_sem,z0,z1,z2,z3,z4,z5,z6,z7]) rfl ?_;exact⟨F9.out.put8 (by have:=HX.out;omega) (by omega) _ _ _ _ _ _ _ _,d9,st9,qH,qR,qP,qN,qO,rfl⟩
  |some S'=>
   obtain⟨qH,qR,qP,qN,qO,bq,rfl,hmq⟩:=he;have M9:Hid (MS u9 B S' qH qR qP qN qO bq):=hmq;clear hmq;obtain⟨z0,z1,z2,z3,z4,z5,z6,z7⟩:=hp8 P9.out.R;have f9:=hp_frz P9.out.R;go_wp2;refine bodyPost_ret (v:=.agg #[.int .i64 S'.d,.slice qH.a qH.n qH.c,.slice qR.a qR.n qR.c,.slice qP.a qP.n qP.c,.int .i64 (S'.st:Int),.slice qN.a qN.n qN.c,.slice qO.a qO.n qO.c,.bool false]) (by simp[results,Tryz.results14,go_sem,z0,z1,z2,z3,z4,z5,z6,z7]) rfl ?_;exact⟨F9.out.put8 (by have:=HX.out;omega) (by omega) _ _ _ _ _ _ _ _,qH,qR,qP,qN,qO,bq,rfl,M9.out.put8 P9.out _ _ _ _ _ _ _ _⟩
 by_cases h_3:fd f 0=[112,114,111,99]
 ·obtain⟨q0,q0'⟩:=beqT HS0.out h_3
  obtain⟨n0,n0'⟩:=beqF (a:=[100,105,97,108,101,99,116]) HS0.out h_0;obtain⟨n1,n1'⟩:=beqF (a:=[104,101,97,112]) HS0.out h_1;obtain⟨n2,n2'⟩:=beqF (a:=[114,101,103]) HS0.out h_2;have HSO:Hid (RR=procS S f):=(by rw[<-HLN.out.1];unfold linS;rw[HLN.out.2,if_neg h_0,if_neg h_1,if_neg h_2,if_pos h_3]:RR=procS S f)
  clear h_0 h_1 h_2 h_3;by_cases h0:S.st=0
  ·have e1:((S.st:Int)==0)=true:=by rw[beq_iff_eq];omega
   have HR:Hid (RR=none):=(by rw[HSO.out];unfold procS;rw[if_neg (fun h=>h.1 h0)]:RR=none)
   clear h0;go_wp2_with fail;refine(l6Bad_any S.d (S.st:Int) sH sR sP sN sO false u2).mono ?_;rintro e u9⟨rfl,hb9⟩;have P9:=P2.out.below hb9;have F9:Hid (Fm tsM B w u9):=F2.out.below hb9 hBu2;obtain⟨z0,z1,z2,z3,z4,z5,z6,z7⟩:=hp8 P9.R;have f9:=hp_frz P9.R;clear hb9;go_wp2;refine bodyPost_ret (v:=.agg #[.int .i64 S.d,.slice sH.a sH.n sH.c,.slice sR.a sR.n sR.c,.slice sP.a sP.n sP.c,.int .i64 (S.st:Int),.slice sN.a sN.n sN.c,.slice sO.a sO.n sO.c,.bool true]) (by simp[results,Tryz.results14,go_sem,z0,z1,z2,z3,z4,z5,z6,z7]) rfl ?_;unfold MR;rw[HR.out];exact⟨F9.out.put8 (by have:=HX.out;omega) (by omega) _ _ _ _ _ _ _ _,S.d,(S.st:Int),sH,sR,sP,sN,sO,rfl⟩
  have e1:((S.st:Int)==0)=false:=by rw[beq_eq_false_iff_ne];omega
  by_cases h2:f.length=1
  rotate_left
  ·have e2:((f.length:Int) !=1)=true:=by rw[bne_iff_ne];omega
   have HR:Hid (RR=none):=(by rw[HSO.out];unfold procS;rw[if_neg (fun h=>h2 h.2.2)]:RR=none)
   clear h2;go_wp2_with fail;refine(l6Bad_any S.d (S.st:Int) sH sR sP sN sO false u2).mono ?_;rintro e u9⟨rfl,hb9⟩;have P9:=P2.out.below hb9;have F9:Hid (Fm tsM B w u9):=F2.out.below hb9 hBu2;obtain⟨z0,z1,z2,z3,z4,z5,z6,z7⟩:=hp8 P9.R;have f9:=hp_frz P9.R;clear hb9;go_wp2;refine bodyPost_ret (v:=.agg #[.int .i64 S.d,.slice sH.a sH.n sH.c,.slice sR.a sR.n sR.c,.slice sP.a sP.n sP.c,.int .i64 (S.st:Int),.slice sN.a sN.n sN.c,.slice sO.a sO.n sO.c,.bool true]) (by simp[results,Tryz.results14,go_sem,z0,z1,z2,z3,z4,z5,z6,z7]) rfl ?_;unfold MR;rw[HR.out];exact⟨F9.out.put8 (by have:=HX.out;omega) (by omega) _ _ _ _ _ _ _ _,S.d,(S.st:Int),sH,sR,sP,sN,sO,rfl⟩
  have e2:((f.length:Int) !=1)=false:=by rw[bne_eq_false_iff_eq];omega
  by_cases h3:S.op=[]
  rotate_left
  ·have e3:(0:Int)<(sO.n:Int):=by
    have h1:S.op.length≠0:=fun e=>h3 (List.length_eq_zero_iff.1 e)
    have:=HNO.out;omega
   have HR:Hid (RR=none):=(by rw[HSO.out];unfold procS;rw[if_neg (fun h=>h3 h.2.1)]:RR=none)
   clear h3 h2;go_wp2_with fail;refine(l6Bad_any S.d (S.st:Int) sH sR sP sN sO false u2).mono ?_;rintro e u9⟨rfl,hb9⟩;have P9:=P2.out.below hb9;have F9:Hid (Fm tsM B w u9):=F2.out.below hb9 hBu2;obtain⟨z0,z1,z2,z3,z4,z5,z6,z7⟩:=hp8 P9.R;have f9:=hp_frz P9.R;clear hb9;go_wp2;refine bodyPost_ret (v:=.agg #[.int .i64 S.d,.slice sH.a sH.n sH.c,.slice sR.a sR.n sR.c,.slice sP.a sP.n sP.c,.int .i64 (S.st:Int),.slice sN.a sN.n sN.c,.slice sO.a sO.n sO.c,.bool true]) (by simp[results,Tryz.results14,go_sem,z0,z1,z2,z3,z4,z5,z6,z7]) rfl ?_;unfold MR;rw[HR.out];exact⟨F9.out.put8 (by have:=HX.out;omega) (by omega) _ _ _ _ _ _ _ _,S.d,(S.st:Int),sH,sR,sP,sN,sO,rfl⟩
  have e3:¬(0:Int)<(sO.n:Int):=by have:=HNO.out;rw[h3]at this;simp at this;omega
  have HR:Hid (RR=some {S with st:=3,ps:=S.ps++[[]]}):=(by rw[HSO.out];unfold procS;rw[if_pos ⟨h0,h3,h2⟩]:RR=some {S with st:=3,ps:=S.ps++[[]]})
  have H3:Hid (S.op=[]):=h3;clear h0 h2 h3;have cf:=hp_frz P2.out.P;obtain⟨iS,gS,gS0,gS1,gS2⟩:=info4 info_procZ;have HIS:Hid (_/\_/\_/\_):=⟨gS,gS0,gS1,gS2⟩
  clear gS gS0 gS1 gS2;go_upto_region 18 with fail;have P3:Hid (PX x (x+1) #[.int .i64 S.d,.slice sH.a sH.n sH.c,.slice sR.a sR.n sR.c,.slice sP.a sP.n sP.c,.int .i64 3,.slice sN.a sN.n sN.c,.slice sO.a sO.n sO.c,.bool false] #[.int .i64 0,.slice none 0 0,.slice none 0 0,.slice none 0 0,.int .i64 0,.slice none 0 0,.slice none 0 0,.bool false] (u2.setCell ⟨x,4,none⟩ (.int .i64 3))):=P2.out.setP 4 _;have M3:Hid (MS (u2.setCell ⟨x,4,none⟩ (.int .i64 3)) B S sH sR sP sN sO bv):=M2.out.setP P2.out 4 _;have F3:Hid (Fm tsM B w (u2.setCell ⟨x,4,none⟩ (.int .i64 3))):=F2.out.setNew (a:=⟨x,4,none⟩) (by have:=HX.out;show _<=x;omega) hBx _;have hBu3:B<=(u2.setCell ⟨x,4,none⟩ (.int .i64 3)).heap.size:=by simpa using hBu2
  clear c0 c1 c2 c3 c4 c5 c6 c7 cf P2 M2 F2 g0 A2;generalize u2.setCell ⟨x,4,none⟩ (.int .i64 3)=u3 at P3 M3 F3 hBu3⊢;obtain⟨c0,c1,c2,c3,c4,c5,c6,c7⟩:=hp8 P3.out.P;have cf:=hp_frz P3.out.P;have hbl6:bv.length<=1000000:=by have:=M3.out.L;omega
  have OA:Hid ((u3.alloc (.cells #[.slice none 0 0] 68)).ownsRow B 68 1 (.slice sP.a sP.n sP.c) bv.length bv):=row_belowZ (M3.out.R.own 4 _ rfl) (fun k hk=>((Below.refl u3.heap.size u3).alloc (Nat.le_refl _) _).block k ((M3.out.R.own 4 _ rfl).lt k hk).2);have HCL:Hid (∀j u,[Value.slice none 0 0][j]?=some u->(u3.alloc (.cells #[.slice none 0 0] 68)).cell? ((⟨u3.heap.size,0,none⟩:Addr).add j)=some u):=cells_newZ u3 #[.slice none 0 0] 68;have hBa:B<=(u3.alloc (.cells #[.slice none 0 0] 68)).heap.size:=by simp;omega
  go_wp2_with(first|(at_builtin;refine wpList_append_own_at _ rfl _ _ 27 rfl B 68 iS _ 1 24 Tryz.underlying27 HIS.out.1 HIS.out.2.1 HIS.out.2.2.1 HIS.out.2.2.2 rfl (by decide) (.slice sP.a sP.n sP.c) bv.length _ rfl OA.out ⟨u3.heap.size,0,none⟩ 1 1 [.slice none 0 0] rfl rfl HCL.out ?c2 ?c3 ?c4 hBa ?_))
  case c2=>simp[Value.oneCell']
  case c3=>unfold maxLen;omega
  case c4=>omega
  intro v' w5 hown hgrow _ hat;obtain⟨ao5,cz5,hv5⟩:=row_sliceZ hown;subst hv5;obtain⟨ua,hua,hba⟩:∃y,u3.alloc (.cells #[.slice none 0 0] 68)=y/\Below u3.heap.size u3 y:=⟨_,rfl,(Below.refl _ _).alloc (Nat.le_refl _) _⟩
  rw[hua]at hgrow OA;have hza:ua.heap.size<=u3.heap.size+1:=by rw[<-hua];simp
  have MA:=M3.out.below hba;have f5:Fm tsM B ua w5:=Fm.of_grow OA.out (Nat.le_refl _) hgrow (by have:=hba.size;omega) (by decide);have r5:=MA.R.proc MA.L hgrow hown (hat.elim .inl (fun e=>.inr ⟨_,e,hza⟩));have M5:Hid (MS w5 B {S with st:=3,ps:=S.ps++[[]]} sH sR ⟨ao5,bv.length+1,cz5⟩ sN sO (bv++[.slice none 0 0])):=(⟨r5,by rw[List.length_append,List.length_append,MA.L];rfl,⟨by show 3<=3;omega,MA.I.d,MA.I.hs,MA.I.rg,MA.I.gv,fun _=>by simp,fun e=>absurd rfl e,fun q hq=>(by have h9:q∈S.op:=hq;rw[H3.out]at h9;exact absurd h9 List.not_mem_nil),MA.I.od⟩⟩:MS w5 B {S with st:=3,ps:=S.ps++[[]]} sH sR ⟨ao5,bv.length+1,cz5⟩ sN sO (bv++[.slice none 0 0]))
  have F5:Hid (Fm tsM B w w5):=(F3.out.below hba hBu3).trans f5;have P5:Hid (PX x (x+1) #[.int .i64 S.d,.slice sH.a sH.n sH.c,.slice sR.a sR.n sR.c,.slice sP.a sP.n sP.c,.int .i64 3,.slice sN.a sN.n sN.c,.slice sO.a sO.n sO.c,.bool false] #[.int .i64 0,.slice none 0 0,.slice none 0 0,.slice none 0 0,.int .i64 0,.slice none 0 0,.slice none 0 0,.bool false] w5):=(P3.out.below hba).fm f5;clear hua hba hza hgrow hat OA MA f5 r5 HCL hBa c0 c1 c2 c3 c4 c5 c6 c7 cf P3 M3 F3 hown HIS;have y3:=hp_cell P5.out.P 3;simp only[List.getElem?_toArray,List.getElem?_cons_zero,List.getElem?_cons_succ]at y3;have yf:=hp_frz P5.out.P;go_upto_region 19 with fail;have P6:Hid (PX x (x+1) #[.int .i64 S.d,.slice sH.a sH.n sH.c,.slice sR.a sR.n sR.c,.slice ao5 (bv.length+1) cz5,.int .i64 3,.slice sN.a sN.n sN.c,.slice sO.a sO.n sO.c,.bool false] #[.int .i64 0,.slice none 0 0,.slice none 0 0,.slice none 0 0,.int .i64 0,.slice none 0 0,.slice none 0 0,.bool false] (w5.setCell ⟨x,3,none⟩ (.slice ao5 (bv.length+1) cz5))):=P5.out.setP 3 _;have M6:Hid (MS (w5.setCell ⟨x,3,none⟩ (.slice ao5 (bv.length+1) cz5)) B {S with st:=3,ps:=S.ps++[[]]} sH sR ⟨ao5,bv.length+1,cz5⟩ sN sO (bv++[.slice none 0 0])):=M5.out.setP P5.out 3 _;have F6:Hid (Fm tsM B w (w5.setCell ⟨x,3,none⟩ (.slice ao5 (bv.length+1) cz5))):=F5.out.setNew (a:=⟨x,3,none⟩) (by have:=HX.out;show _<=x;omega) hBx _;clear y3 yf P5 M5 F5;generalize w5.setCell ⟨x,3,none⟩ (.slice ao5 (bv.length+1) cz5)=u6 at P6 M6 F6⊢;obtain⟨y0,y1,y2,y3,y4,y5,y6,y7⟩:=hp8 P6.out.P;obtain⟨z0,z1,z2,z3,z4,z5,z6,z7⟩:=hp8 P6.out.R;have f9:=hp_frz P6.out.R;go_wp2;refine bodyPost_ret (v:=.agg #[.int .i64 S.d,.slice sH.a sH.n sH.c,.slice sR.a sR.n sR.c,.slice ao5 (bv.length+1) cz5,.int .i64 3,.slice sN.a sN.n sN.c,.slice sO.a sO.n sO.c,.bool false]) (by simp[results,Tryz.results14,go_sem,z0,z1,z2,z3,z4,z5,z6,z7]) rfl ?_;unfold MR;rw[HR.out];exact⟨F6.out.put8 (by have:=HX.out;omega) (by omega) _ _ _ _ _ _ _ _,sH,sR,⟨ao5,bv.length+1,cz5⟩,sN,sO,_,rfl,M6.out.put8 P6.out _ _ _ _ _ _ _ _⟩
 obtain⟨n0,n0'⟩:=beqF (a:=[100,105,97,108,101,99,116]) HS0.out h_0;obtain⟨n1,n1'⟩:=beqF (a:=[104,101,97,112]) HS0.out h_1;obtain⟨n2,n2'⟩:=beqF (a:=[114,101,103]) HS0.out h_2;obtain⟨n3,n3'⟩:=beqF (a:=[112,114,111,99]) HS0.out h_3;have HSO0:Hid (RR=stmS S l f):=(by rw[<-HLN.out.1];unfold linS;rw[HLN.out.2,if_neg h_0,if_neg h_1,if_neg h_2,if_neg h_3]:RR=stmS S l f)
 clear h_0 h_1 h_2 h_3;by_cases h3:S.st=3
 rotate_left
 ·have e1:((S.st:Int) !=3)=true:=by rw[bne_iff_ne];omega
  have HR:Hid (RR=none):=(by rw[HSO0.out];unfold stmS;rw[if_neg h3]:RR=none)
  clear h3;go_wp2_with fail;refine(l6Bad_any S.d (S.st:Int) sH sR sP sN sO false u2).mono ?_;rintro e u9⟨rfl,hb9⟩;have P9:=P2.out.below hb9;have F9:Hid (Fm tsM B w u9):=F2.out.below hb9 hBu2;obtain⟨z0,z1,z2,z3,z4,z5,z6,z7⟩:=hp8 P9.R;have f9:=hp_frz P9.R;clear hb9;go_wp2;refine bodyPost_ret (v:=.agg #[.int .i64 S.d,.slice sH.a sH.n sH.c,.slice sR.a sR.n sR.c,.slice sP.a sP.n sP.c,.int .i64 (S.st:Int),.slice sN.a sN.n sN.c,.slice sO.a sO.n sO.c,.bool true]) (by simp[results,Tryz.results14,go_sem,z0,z1,z2,z3,z4,z5,z6,z7]) rfl ?_;unfold MR;rw[HR.out];exact⟨F9.out.put8 (by have:=HX.out;omega) (by omega) _ _ _ _ _ _ _ _,S.d,(S.st:Int),sH,sR,sP,sN,sO,rfl⟩
 have e1:((S.st:Int) !=3)=false:=by rw[bne_eq_false_iff_eq];omega
 have HSO:=HSO0;have H3:Hid (S.st=3):=h3;clear h3;go_wp2_with fail;refine(l6Stmt_any B S sH sR sP sN sO bv l f fb fc u2 hBu2 M2.out H3.out hbl hp ho6 HTH.out A2.out HL.out hsz hne (by omega)).mono ?_;rintro e u9⟨hf9,he⟩;have P9:Hid (PX x (x+1) #[.int .i64 S.d,.slice sH.a sH.n sH.c,.slice sR.a sR.n sR.c,.slice sP.a sP.n sP.c,.int .i64 (S.st:Int),.slice sN.a sN.n sN.c,.slice sO.a sO.n sO.c,.bool false] #[.int .i64 0,.slice none 0 0,.slice none 0 0,.slice none 0 0,.int .i64 0,.slice none 0 0,.slice none 0 0,.bool false] u9):=P2.out.fm hf9;have F9:Hid (Fm tsM B w u9):=F2.out.trans hf9;clear hf9;rw[<-HSO.out]at he;cases RR with
 |none=>
  obtain⟨d9,st9,qH,qR,qP,qN,qO,rfl⟩:=he;obtain⟨z0,z1,z2,z3,z4,z5,z6,z7⟩:=hp8 P9.out.R;have f9:=hp_frz P9.out.R;go_wp2;refine bodyPost_ret (v:=.agg #[.int .i64 d9,.slice qH.a qH.n qH.c,.slice qR.a qR.n qR.c,.slice qP.a qP.n qP.c,.int .i64 st9,.slice qN.a qN.n qN.c,.slice qO.a qO.n qO.c,.bool true]) (by simp[results,Tryz.results14,go_sem,z0,z1,z2,z3,z4,z5,z6,z7]) rfl ?_;exact⟨F9.out.put8 (by have:=HX.out;omega) (by omega) _ _ _ _ _ _ _ _,d9,st9,qH,qR,qP,qN,qO,rfl⟩
 |some S'=>
  obtain⟨qH,qR,qP,qN,qO,bq,rfl,hmq⟩:=he;have M9:Hid (MS u9 B S' qH qR qP qN qO bq):=hmq;clear hmq;obtain⟨z0,z1,z2,z3,z4,z5,z6,z7⟩:=hp8 P9.out.R;have f9:=hp_frz P9.out.R;go_wp2;refine bodyPost_ret (v:=.agg #[.int .i64 S'.d,.slice qH.a qH.n qH.c,.slice qR.a qR.n qR.c,.slice qP.a qP.n qP.c,.int .i64 (S'.st:Int),.slice qN.a qN.n qN.c,.slice qO.a qO.n qO.c,.bool false]) (by simp[results,Tryz.results14,go_sem,z0,z1,z2,z3,z4,z5,z6,z7]) rfl ?_;exact⟨F9.out.put8 (by have:=HX.out;omega) (by omega) _ _ _ _ _ _ _ _,qH,qR,qP,qN,qO,bq,rfl,M9.out.put8 P9.out _ _ _ _ _ _ _ _⟩
end Go.Proofs.YtblfmpgdhpbffaaGreatDoor
