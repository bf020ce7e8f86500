import Derived.Test.YtblfmpgdhpbffaaGreatDoorOfPzStm0
set_option maxHeartbeats 12800000
set_option maxRecDepth 20000
namespace Go.Proofs.YtblfmpgdhpbffaaGreatDoor
open Go.RowKit
theorem l6Stmt_else(B:Nat)(S:PS)(sH sR sP sN sO:Sl)(bv:List Value)(l:List UInt8)(f:List (List UInt8))(fb fc:Nat)(w:World)(hB:B<=w.heap.size)(hm:MS w B S sH sR sP sN sO bv)(h3:S.st=3)(hbl:(bodS S).length<=1000000)(hp:S.ps.length<=1000000)(ho6:S.op.length<=1000000)(hth:∀o∈S.op,0<=o.th/\o.th<=1000000)(hf:FA w fb f)(hl:∀i,((stB (fd f i)).size:Int)<=200000)(_hll:((stB l).size:Int)<=200000)(hne:0<f.length)(hlf:f.length<=200001)(hw:fd f 0=[101,108,115,101]):
 Calls Tryz.prog 25 #[.agg #[.int .i64 S.d,.slice sH.a sH.n sH.c,.slice sR.a sR.n sR.c,.slice sP.a sP.n sP.c,.int .i64 (S.st:Int),.slice sN.a sN.n sN.c,.slice sO.a sO.n sO.c,.bool false],.string (stB l),.slice (some ⟨fb,0,none⟩) f.length fc] w fun e w'=>MR B w (stmS S l f) e w':=by
 obtain⟨RR,hRR⟩:∃y,stmS S l f=y:=⟨_,rfl⟩
 rw[hRR];have HRR:Hid (stmS S l f=RR):=hRR;have M:Hid (MS w B S sH sR sP sN sO bv):=hm;have H3:Hid (S.st=3):=h3;have HTH:Hid (∀o∈S.op,0<=o.th/\o.th<=1000000):=hth;have HL:Hid (∀i,((stB (fd f i)).size:Int)<=200000):=hl;have HF:Hid (FA w fb f):=hf;clear hm hf hl h3 hth hRR;go_enter Tryz.func25,Tryz.ntmps25;go_upto_region 1 with fail;obtain⟨u,hu,p0,bu⟩:∃y,((w.alloc (.cells #[.int .i64 S.d,.slice sH.a sH.n sH.c,.slice sR.a sR.n sR.c,.slice sP.a sP.n sP.c,.int .i64 (S.st:Int),.slice sN.a sN.n sN.c,.slice sO.a sO.n sO.c,.bool false] 45)).alloc (.cells #[.int .i64 0,.slice none 0 0,.slice none 0 0,.slice none 0 0,.int .i64 0,.slice none 0 0,.slice none 0 0,.bool false] 45))=y/\PX w.heap.size (w.heap.size+1) #[.int .i64 S.d,.slice sH.a sH.n sH.c,.slice sR.a sR.n sR.c,.slice sP.a sP.n sP.c,.int .i64 (S.st:Int),.slice sN.a sN.n sN.c,.slice sO.a sO.n sO.c,.bool false] #[.int .i64 0,.slice none 0 0,.slice none 0 0,.slice none 0 0,.int .i64 0,.slice none 0 0,.slice none 0 0,.bool false] y/\Below w.heap.size w y:=⟨_,rfl,px_new w _ _,two_below w _ _⟩
 rw[hu];obtain⟨x,hx⟩:∃y,w.heap.size=y:=⟨_,rfl⟩
 rw[hx]at p0⊢;have HX:Hid (w.heap.size=x):=hx;have P0:Hid (PX x (x+1) #[.int .i64 S.d,.slice sH.a sH.n sH.c,.slice sR.a sR.n sR.c,.slice sP.a sP.n sP.c,.int .i64 (S.st:Int),.slice sN.a sN.n sN.c,.slice sO.a sO.n sO.c,.bool false] #[.int .i64 0,.slice none 0 0,.slice none 0 0,.slice none 0 0,.int .i64 0,.slice none 0 0,.slice none 0 0,.bool false] u):=p0;have F0:Hid (Fm tsM B w u):=Fm.of_below bu hB;have M0:Hid (MS u B S sH sR sP sN sO bv):=M.out.below bu;have hBx:B<=x:=by omega
 have hBu:B<=u.heap.size:=by have:=bu.size;omega
 have A0:Hid (FA u fb f):=HF.out.below bu;obtain⟨c0,c1,c2,c3,c4,c5,c6,c7⟩:=hp8 p0.P;have e0:(0:Int)<(f.length:Int):=by omega
 have HXS:Hid (x+1<u.heap.size):=(Array.getElem?_eq_some_iff.1 p0.R).1;clear hu hx p0 bu HF M;obtain⟨s0,hs0⟩:∃y,stB (fd f 0)=y:=⟨_,rfl⟩
 obtain⟨s1,hs1⟩:∃y,stB (fd f 1)=y:=⟨_,rfl⟩
 obtain⟨sl,hsl⟩:∃y,stB l=y:=⟨_,rfl⟩
 have HS0:Hid (stB (fd f 0)=s0):=hs0;have HS1:Hid (stB (fd f 1)=s1):=hs1;have HSL:Hid (stB l=sl):=hsl;have g0:u.cell? ⟨fb,0,none⟩=some (.string s0):=(A0.out.cell 0 hne).trans (by rw[hs0]);have hz1:(s1.size:Int)<=200000:=by rw[<-hs1];exact HL.out 1
 rw[hsl];have WD:Hid (s1.data.toList=fd f 1):=(by rw[<-hs1];simp[stB]:s1.data.toList=fd f 1)
 have WL:Hid (sl.data.toList=l):=(by rw[<-hsl];simp[stB]:sl.data.toList=l)
 clear hs0 hs1 hsl;obtain⟨q2,q2'⟩:=beqT HS0.out hw;obtain⟨q3,q3'⟩:=beqF (a:=[101,110,100]) HS0.out (by rw[hw];decide);obtain⟨q0,q0'⟩:=beqF (a:=[105,102]) HS0.out (by rw[hw];decide);obtain⟨q1,q1'⟩:=beqF (a:=[119,104,105,108,101]) HS0.out (by rw[hw];decide);have HSO:Hid (RR=if true=true then elsS S f else endS S f):=(by rw[<-HRR.out];unfold stmS;rw[if_pos H3.out,if_neg (show fd f 0≠[105,102]by rw[hw];decide),if_neg (show fd f 0≠[119,104,105,108,101]by rw[hw];decide),if_pos hw];rfl:RR=if true=true then elsS S f else endS S f)
 clear hw;by_cases h2:f.length=1
 rotate_left
 ·have e2:((f.length:Int) !=1)=true:=by rw[bne_iff_ne];omega
  have HR:Hid (RR=none):=(by rw[HSO.out];unfold elsS;rw[if_pos rfl];split;·rfl
                             ·rw[if_neg (fun h=>h2 h.1)]:RR=none)
  clear h2;go_wp2_with fail;refine(l6Bad_any S.d (S.st:Int) sH sR sP sN sO false u).mono ?_;rintro e u9⟨rfl,hb9⟩;have P9:=P0.out.below hb9;have F9:Hid (Fm tsM B w u9):=F0.out.below hb9 hBu;obtain⟨z0,z1,z2,z3,z4,z5,z6,z7⟩:=hp8 P9.R;have f9:=hp_frz P9.R;clear hb9;go_wp2;refine bodyPost_ret (v:=.agg #[.int .i64 S.d,.slice sH.a sH.n sH.c,.slice sR.a sR.n sR.c,.slice sP.a sP.n sP.c,.int .i64 (S.st:Int),.slice sN.a sN.n sN.c,.slice sO.a sO.n sO.c,.bool true]) (by simp[results,Tryz.results25,go_sem,z0,z1,z2,z3,z4,z5,z6,z7]) rfl ?_;unfold MR;rw[HR.out];exact⟨F9.out.put8 (by have:=HX.out;omega) (by omega) _ _ _ _ _ _ _ _,S.d,(S.st:Int),sH,sR,sP,sN,sO,rfl⟩
 have e2:((f.length:Int) !=1)=false:=by rw[bne_eq_false_iff_eq];omega
 have H2:Hid (f.length=1):=h2
 clear h2
 go_upto_region 15 with fail
 have TD:PX x (x+1) #[.int .i64 S.d,.slice sH.a sH.n sH.c,.slice sR.a sR.n sR.c,.slice sP.a sP.n sP.c,.int .i64 (S.st:Int),.slice sN.a sN.n sN.c,.slice sO.a sO.n sO.c,.bool false] #[.int .i64 0,.slice none 0 0,.slice none 0 0,.slice none 0 0,.int .i64 0,.slice none 0 0,.slice none 0 0,.bool false] u.drew/\FA u.drew fb f:=⟨P0.out.below (Below.refl _ _).drew,A0.out.below (Below.refl _ _).drew⟩
 have MD:Hid (MS u.drew B S sH sR sP sN sO bv):=M0.out.below (Below.refl _ _).drew
 have FD:Hid (Fm tsM B w u.drew):=F0.out.below (Below.refl _ _).drew hBu
 have hBd:B<=u.drew.heap.size:=hBu
 have r0:∀w':World,(PX x (x+1) #[.int .i64 S.d,.slice sH.a sH.n sH.c,.slice sR.a sR.n sR.c,.slice sP.a sP.n sP.c,.int .i64 (S.st:Int),.slice sN.a sN.n sN.c,.slice sO.a sO.n sO.c,.bool false] #[.int .i64 0,.slice none 0 0,.slice none 0 0,.slice none 0 0,.int .i64 0,.slice none 0 0,.slice none 0 0,.bool false] w'/\FA w' fb f)->w'.cell? ⟨x,0,none⟩=some (.int .i64 S.d):=fun w' h=>hp_cell h.1.P 0
 have r1:∀w':World,(PX x (x+1) #[.int .i64 S.d,.slice sH.a sH.n sH.c,.slice sR.a sR.n sR.c,.slice sP.a sP.n sP.c,.int .i64 (S.st:Int),.slice sN.a sN.n sN.c,.slice sO.a sO.n sO.c,.bool false] #[.int .i64 0,.slice none 0 0,.slice none 0 0,.slice none 0 0,.int .i64 0,.slice none 0 0,.slice none 0 0,.bool false] w'/\FA w' fb f)->w'.cell? ⟨x,1,none⟩=some (.slice sH.a sH.n sH.c):=fun w' h=>hp_cell h.1.P 1
 have r2:∀w':World,(PX x (x+1) #[.int .i64 S.d,.slice sH.a sH.n sH.c,.slice sR.a sR.n sR.c,.slice sP.a sP.n sP.c,.int .i64 (S.st:Int),.slice sN.a sN.n sN.c,.slice sO.a sO.n sO.c,.bool false] #[.int .i64 0,.slice none 0 0,.slice none 0 0,.slice none 0 0,.int .i64 0,.slice none 0 0,.slice none 0 0,.bool false] w'/\FA w' fb f)->w'.cell? ⟨x,2,none⟩=some (.slice sR.a sR.n sR.c):=fun w' h=>hp_cell h.1.P 2
 have r3:∀w':World,(PX x (x+1) #[.int .i64 S.d,.slice sH.a sH.n sH.c,.slice sR.a sR.n sR.c,.slice sP.a sP.n sP.c,.int .i64 (S.st:Int),.slice sN.a sN.n sN.c,.slice sO.a sO.n sO.c,.bool false] #[.int .i64 0,.slice none 0 0,.slice none 0 0,.slice none 0 0,.int .i64 0,.slice none 0 0,.slice none 0 0,.bool false] w'/\FA w' fb f)->w'.cell? ⟨x,3,none⟩=some (.slice sP.a sP.n sP.c):=fun w' h=>hp_cell h.1.P 3
 have r4:∀w':World,(PX x (x+1) #[.int .i64 S.d,.slice sH.a sH.n sH.c,.slice sR.a sR.n sR.c,.slice sP.a sP.n sP.c,.int .i64 (S.st:Int),.slice sN.a sN.n sN.c,.slice sO.a sO.n sO.c,.bool false] #[.int .i64 0,.slice none 0 0,.slice none 0 0,.slice none 0 0,.int .i64 0,.slice none 0 0,.slice none 0 0,.bool false] w'/\FA w' fb f)->w'.cell? ⟨x,4,none⟩=some (.int .i64 (S.st:Int)):=fun w' h=>hp_cell h.1.P 4
 have r5:∀w':World,(PX x (x+1) #[.int .i64 S.d,.slice sH.a sH.n sH.c,.slice sR.a sR.n sR.c,.slice sP.a sP.n sP.c,.int .i64 (S.st:Int),.slice sN.a sN.n sN.c,.slice sO.a sO.n sO.c,.bool false] #[.int .i64 0,.slice none 0 0,.slice none 0 0,.slice none 0 0,.int .i64 0,.slice none 0 0,.slice none 0 0,.bool false] w'/\FA w' fb f)->w'.cell? ⟨x,5,none⟩=some (.slice sN.a sN.n sN.c):=fun w' h=>hp_cell h.1.P 5
 have r6:∀w':World,(PX x (x+1) #[.int .i64 S.d,.slice sH.a sH.n sH.c,.slice sR.a sR.n sR.c,.slice sP.a sP.n sP.c,.int .i64 (S.st:Int),.slice sN.a sN.n sN.c,.slice sO.a sO.n sO.c,.bool false] #[.int .i64 0,.slice none 0 0,.slice none 0 0,.slice none 0 0,.int .i64 0,.slice none 0 0,.slice none 0 0,.bool false] w'/\FA w' fb f)->w'.cell? ⟨x,6,none⟩=some (.slice sO.a sO.n sO.c):=fun w' h=>hp_cell h.1.P 6
 have r7:∀w':World,(PX x (x+1) #[.int .i64 S.d,.slice sH.a sH.n sH.c,.slice sR.a sR.n sR.c,.slice sP.a sP.n sP.c,.int .i64 (S.st:Int),.slice sN.a sN.n sN.c,.slice sO.a sO.n sO.c,.bool false] #[.int .i64 0,.slice none 0 0,.slice none 0 0,.slice none 0 0,.int .i64 0,.slice none 0 0,.slice none 0 0,.bool false] w'/\FA w' fb f)->w'.cell? ⟨x,7,none⟩=some (.bool false):=fun w' h=>hp_cell h.1.P 7
 have r8:∀w':World,(PX x (x+1) #[.int .i64 S.d,.slice sH.a sH.n sH.c,.slice sR.a sR.n sR.c,.slice sP.a sP.n sP.c,.int .i64 (S.st:Int),.slice sN.a sN.n sN.c,.slice sO.a sO.n sO.c,.bool false] #[.int .i64 0,.slice none 0 0,.slice none 0 0,.slice none 0 0,.int .i64 0,.slice none 0 0,.slice none 0 0,.bool false] w'/\FA w' fb f)->w'.cell? ⟨fb,0,none⟩=some (.string s0):=fun w' h=>(h.2.cell 0 hne).trans (by rw[HS0.out])
 refine wp_region_L (T:=fun w'=>PX x (x+1) #[.int .i64 S.d,.slice sH.a sH.n sH.c,.slice sR.a sR.n sR.c,.slice sP.a sP.n sP.c,.int .i64 (S.st:Int),.slice sN.a sN.n sN.c,.slice sO.a sO.n sO.c,.bool false] #[.int .i64 0,.slice none 0 0,.slice none 0 0,.slice none 0 0,.int .i64 0,.slice none 0 0,.slice none 0 0,.bool false] w'/\FA w' fb f) (s:=6) (by kernel_rfl) TD (fun hHeld=>?_)
 clear TD M0 F0 P0 A0 c0 c1 c2 c3 c4 c5 c6 c7 g0
 generalize u.drew=t0 at hHeld MD FD hBd⊢
 refine wpAnyL_tk 0 ?k1v rfl ?k1y ?k1r
 case k1y=>(intro w hSw;(try dsimp only at hSw);go_simp;try with_reducible rfl)
 try go_frame
 refine wpAnyL_tk 1 ?k2v rfl ?k2y ?k2r
 case k2y=>(intro w hSw;(try dsimp only at hSw);go_simp;try with_reducible rfl)
 try go_frame
 refine wpAnyL_tk 2 ?k3v rfl ?k3y ?k3r
 case k3y=>(intro w hSw;(try dsimp only at hSw);go_simp;try with_reducible rfl)
 try go_frame
 refine wpAnyL_tk 3 ?k4v rfl ?k4y ?k4r
 case k4y=>(intro w hSw;(try dsimp only at hSw);go_simp;try with_reducible rfl)
 try go_frame
 refine wpAnyL_tk 4 ?k5v rfl ?k5y ?k5r
 case k5y=>(intro w hSw;(try dsimp only at hSw);go_simp;try with_reducible rfl)
 try go_frame
 refine wpAnyL_call (i:=5) rfl (by kernel_rfl) (fun KK hK=>?_)
 go_simp
 refine(l6Close_any B S sH sR sP sN sO bv f true t0 hBd MD.out H3.out hbl hp H2.out ho6 HTH.out).mono ?_
 rintro e u9⟨hf9,he⟩
 rw[<-HSO.out]at he
 have T9:PX x (x+1) #[.int .i64 S.d,.slice sH.a sH.n sH.c,.slice sR.a sR.n sR.c,.slice sP.a sP.n sP.c,.int .i64 (S.st:Int),.slice sN.a sN.n sN.c,.slice sO.a sO.n sO.c,.bool false] #[.int .i64 0,.slice none 0 0,.slice none 0 0,.slice none 0 0,.int .i64 0,.slice none 0 0,.slice none 0 0,.bool false] u9/\FA u9 fb f:=⟨hHeld.1.fm hf9,hHeld.2.fm hf9 (by decide)⟩
 have P9:Hid (PX x (x+1) #[.int .i64 S.d,.slice sH.a sH.n sH.c,.slice sR.a sR.n sR.c,.slice sP.a sP.n sP.c,.int .i64 (S.st:Int),.slice sN.a sN.n sN.c,.slice sO.a sO.n sO.c,.bool false] #[.int .i64 0,.slice none 0 0,.slice none 0 0,.slice none 0 0,.int .i64 0,.slice none 0 0,.slice none 0 0,.bool false] u9):=T9.1
 have F9:Hid (Fm tsM B w u9):=FD.out.trans hf9
 clear hf9
 cases RR with
 |none=>
  obtain⟨d9,st9,qH,qR,qP,qN,qO,rfl⟩:=he
  refine hK.out _ _ T9 (fun hHeld9=>?_)
  clear hK KK hHeld hHeld9 T9 r0 r1 r2 r3 r4 r5 r6 r7 r8
  obtain⟨z0,z1,z2,z3,z4,z5,z6,z7⟩:=hp8 P9.out.R
  have f9:=hp_frz P9.out.R
  refine wpAnyL_store rfl (by kernel_rfl) (by kernel_rfl) (fun KK hK=>?_)
  go_simp
  refine hK.out _ _ ?_
  clear hK KK
  go_wp2
  refine bodyPost_ret (v:=.agg #[.int .i64 d9,.slice qH.a qH.n qH.c,.slice qR.a qR.n qR.c,.slice qP.a qP.n qP.c,.int .i64 st9,.slice qN.a qN.n qN.c,.slice qO.a qO.n qO.c,.bool true]) (by simp[results,Tryz.results25,go_sem,z0,z1,z2,z3,z4,z5,z6,z7]) rfl ?_
  exact⟨F9.out.put8 (by have:=HX.out;omega) (by omega) _ _ _ _ _ _ _ _,d9,st9,qH,qR,qP,qN,qO,rfl⟩
 |some S'=>
  obtain⟨qH,qR,qP,qN,qO,bq,rfl,hmq⟩:=he
  have M9:Hid (MS u9 B S' qH qR qP qN qO bq):=hmq
  refine hK.out _ _ T9 (fun hHeld9=>?_)
  clear hK KK hHeld hHeld9 T9 r0 r1 r2 r3 r4 r5 r6 r7 r8 hmq
  obtain⟨z0,z1,z2,z3,z4,z5,z6,z7⟩:=hp8 P9.out.R
  have f9:=hp_frz P9.out.R
  refine wpAnyL_store rfl (by kernel_rfl) (by kernel_rfl) (fun KK hK=>?_)
  go_simp
  refine hK.out _ _ ?_
  clear hK KK
  go_wp2
  refine bodyPost_ret (v:=.agg #[.int .i64 S'.d,.slice qH.a qH.n qH.c,.slice qR.a qR.n qR.c,.slice qP.a qP.n qP.c,.int .i64 (S'.st:Int),.slice qN.a qN.n qN.c,.slice qO.a qO.n qO.c,.bool false]) (by simp[results,Tryz.results25,go_sem,z0,z1,z2,z3,z4,z5,z6,z7]) rfl ?_
  exact⟨F9.out.put8 (by have:=HX.out;omega) (by omega) _ _ _ _ _ _ _ _,qH,qR,qP,qN,qO,bq,rfl,M9.out.put8 P9.out _ _ _ _ _ _ _ _⟩
theorem l6Stmt_end(B:Nat)(S:PS)(sH sR sP sN sO:Sl)(bv:List Value)(l:List UInt8)(f:List (List UInt8))(fb fc:Nat)(w:World)(hB:B<=w.heap.size)(hm:MS w B S sH sR sP sN sO bv)(h3:S.st=3)(hbl:(bodS S).length<=1000000)(hp:S.ps.length<=1000000)(ho6:S.op.length<=1000000)(hth:∀o∈S.op,0<=o.th/\o.th<=1000000)(hf:FA w fb f)(hl:∀i,((stB (fd f i)).size:Int)<=200000)(_hll:((stB l).size:Int)<=200000)(hne:0<f.length)(hlf:f.length<=200001)(hw:fd f 0=[101,110,100]):
 Calls Tryz.prog 25 #[.agg #[.int .i64 S.d,.slice sH.a sH.n sH.c,.slice sR.a sR.n sR.c,.slice sP.a sP.n sP.c,.int .i64 (S.st:Int),.slice sN.a sN.n sN.c,.slice sO.a sO.n sO.c,.bool false],.string (stB l),.slice (some ⟨fb,0,none⟩) f.length fc] w fun e w'=>MR B w (stmS S l f) e w':=by
 obtain⟨RR,hRR⟩:∃y,stmS S l f=y:=⟨_,rfl⟩
 rw[hRR];have HRR:Hid (stmS S l f=RR):=hRR;have M:Hid (MS w B S sH sR sP sN sO bv):=hm;have H3:Hid (S.st=3):=h3;have HTH:Hid (∀o∈S.op,0<=o.th/\o.th<=1000000):=hth;have HL:Hid (∀i,((stB (fd f i)).size:Int)<=200000):=hl;have HF:Hid (FA w fb f):=hf;clear hm hf hl h3 hth hRR;go_enter Tryz.func25,Tryz.ntmps25;go_upto_region 1 with fail;obtain⟨u,hu,p0,bu⟩:∃y,((w.alloc (.cells #[.int .i64 S.d,.slice sH.a sH.n sH.c,.slice sR.a sR.n sR.c,.slice sP.a sP.n sP.c,.int .i64 (S.st:Int),.slice sN.a sN.n sN.c,.slice sO.a sO.n sO.c,.bool false] 45)).alloc (.cells #[.int .i64 0,.slice none 0 0,.slice none 0 0,.slice none 0 0,.int .i64 0,.slice none 0 0,.slice none 0 0,.bool false] 45))=y/\PX w.heap.size (w.heap.size+1) #[.int .i64 S.d,.slice sH.a sH.n sH.c,.slice sR.a sR.n sR.c,.slice sP.a sP.n sP.c,.int .i64 (S.st:Int),.slice sN.a sN.n sN.c,.slice sO.a sO.n sO.c,.bool false] #[.int .i64 0,.slice none 0 0,.slice none 0 0,.slice none 0 0,.int .i64 0,.slice none 0 0,.slice none 0 0,.bool false] y/\Below w.heap.size w y:=⟨_,rfl,px_new w _ _,two_below w _ _⟩
 rw[hu];obtain⟨x,hx⟩:∃y,w.heap.size=y:=⟨_,rfl⟩
 rw[hx]at p0⊢;have HX:Hid (w.heap.size=x):=hx;have P0:Hid (PX x (x+1) #[.int .i64 S.d,.slice sH.a sH.n sH.c,.slice sR.a sR.n sR.c,.slice sP.a sP.n sP.c,.int .i64 (S.st:Int),.slice sN.a sN.n sN.c,.slice sO.a sO.n sO.c,.bool false] #[.int .i64 0,.slice none 0 0,.slice none 0 0,.slice none 0 0,.int .i64 0,.slice none 0 0,.slice none 0 0,.bool false] u):=p0;have F0:Hid (Fm tsM B w u):=Fm.of_below bu hB;have M0:Hid (MS u B S sH sR sP sN sO bv):=M.out.below bu;have hBx:B<=x:=by omega
 have hBu:B<=u.heap.size:=by have:=bu.size;omega
 have A0:Hid (FA u fb f):=HF.out.below bu;obtain⟨c0,c1,c2,c3,c4,c5,c6,c7⟩:=hp8 p0.P;have e0:(0:Int)<(f.length:Int):=by omega
 have HXS:Hid (x+1<u.heap.size):=(Array.getElem?_eq_some_iff.1 p0.R).1;clear hu hx p0 bu HF M;obtain⟨s0,hs0⟩:∃y,stB (fd f 0)=y:=⟨_,rfl⟩
 obtain⟨s1,hs1⟩:∃y,stB (fd f 1)=y:=⟨_,rfl⟩
 obtain⟨sl,hsl⟩:∃y,stB l=y:=⟨_,rfl⟩
 have HS0:Hid (stB (fd f 0)=s0):=hs0;have HS1:Hid (stB (fd f 1)=s1):=hs1;have HSL:Hid (stB l=sl):=hsl;have g0:u.cell? ⟨fb,0,none⟩=some (.string s0):=(A0.out.cell 0 hne).trans (by rw[hs0]);have hz1:(s1.size:Int)<=200000:=by rw[<-hs1];exact HL.out 1
 rw[hsl];have WD:Hid (s1.data.toList=fd f 1):=(by rw[<-hs1];simp[stB]:s1.data.toList=fd f 1)
 have WL:Hid (sl.data.toList=l):=(by rw[<-hsl];simp[stB]:sl.data.toList=l)
 clear hs0 hs1 hsl;obtain⟨q2,q2'⟩:=beqF (a:=[101,108,115,101]) HS0.out (by rw[hw];decide);obtain⟨q3,q3'⟩:=beqT HS0.out hw;obtain⟨q0,q0'⟩:=beqF (a:=[105,102]) HS0.out (by rw[hw];decide);obtain⟨q1,q1'⟩:=beqF (a:=[119,104,105,108,101]) HS0.out (by rw[hw];decide);have HSO:Hid (RR=if false=true then elsS S f else endS S f):=(by rw[<-HRR.out];unfold stmS;rw[if_pos H3.out,if_neg (show fd f 0≠[105,102]by rw[hw];decide),if_neg (show fd f 0≠[119,104,105,108,101]by rw[hw];decide),if_neg (show fd f 0≠[101,108,115,101]by rw[hw];decide),if_pos hw];rfl:RR=if false=true then elsS S f else endS S f)
 clear hw;by_cases h2:f.length=1
 rotate_left
 ·have e2:((f.length:Int) !=1)=true:=by rw[bne_iff_ne];omega
  have HR:Hid (RR=none):=(by rw[HSO.out];unfold endS;rw[if_neg (by decide)];split;·rfl
                             ·rw[if_neg (fun h=>h2 h)]:RR=none)
  clear h2;go_wp2_with fail;refine(l6Bad_any S.d (S.st:Int) sH sR sP sN sO false u).mono ?_;rintro e u9⟨rfl,hb9⟩;have P9:=P0.out.below hb9;have F9:Hid (Fm tsM B w u9):=F0.out.below hb9 hBu;obtain⟨z0,z1,z2,z3,z4,z5,z6,z7⟩:=hp8 P9.R;have f9:=hp_frz P9.R;clear hb9;go_wp2;refine bodyPost_ret (v:=.agg #[.int .i64 S.d,.slice sH.a sH.n sH.c,.slice sR.a sR.n sR.c,.slice sP.a sP.n sP.c,.int .i64 (S.st:Int),.slice sN.a sN.n sN.c,.slice sO.a sO.n sO.c,.bool true]) (by simp[results,Tryz.results25,go_sem,z0,z1,z2,z3,z4,z5,z6,z7]) rfl ?_;unfold MR;rw[HR.out];exact⟨F9.out.put8 (by have:=HX.out;omega) (by omega) _ _ _ _ _ _ _ _,S.d,(S.st:Int),sH,sR,sP,sN,sO,rfl⟩
 have e2:((f.length:Int) !=1)=false:=by rw[bne_eq_false_iff_eq];omega
 have H2:Hid (f.length=1):=h2
 clear h2
 go_upto_region 15 with fail
 have TD:PX x (x+1) #[.int .i64 S.d,.slice sH.a sH.n sH.c,.slice sR.a sR.n sR.c,.slice sP.a sP.n sP.c,.int .i64 (S.st:Int),.slice sN.a sN.n sN.c,.slice sO.a sO.n sO.c,.bool false] #[.int .i64 0,.slice none 0 0,.slice none 0 0,.slice none 0 0,.int .i64 0,.slice none 0 0,.slice none 0 0,.bool false] u.drew/\FA u.drew fb f:=⟨P0.out.below (Below.refl _ _).drew,A0.out.below (Below.refl _ _).drew⟩
 have MD:Hid (MS u.drew B S sH sR sP sN sO bv):=M0.out.below (Below.refl _ _).drew
 have FD:Hid (Fm tsM B w u.drew):=F0.out.below (Below.refl _ _).drew hBu
 have hBd:B<=u.drew.heap.size:=hBu
 have r0:∀w':World,(PX x (x+1) #[.int .i64 S.d,.slice sH.a sH.n sH.c,.slice sR.a sR.n sR.c,.slice sP.a sP.n sP.c,.int .i64 (S.st:Int),.slice sN.a sN.n sN.c,.slice sO.a sO.n sO.c,.bool false] #[.int .i64 0,.slice none 0 0,.slice none 0 0,.slice none 0 0,.int .i64 0,.slice none 0 0,.slice none 0 0,.bool false] w'/\FA w' fb f)->w'.cell? ⟨x,0,none⟩=some (.int .i64 S.d):=fun w' h=>hp_cell h.1.P 0
 have r1:∀w':World,(PX x (x+1) #[.int .i64 S.d,.slice sH.a sH.n sH.c,.slice sR.a sR.n sR.c,.slice sP.a sP.n sP.c,.int .i64 (S.st:Int),.slice sN.a sN.n sN.c,.slice sO.a sO.n sO.c,.bool false] #[.int .i64 0,.slice none 0 0,.slice none 0 0,.slice none 0 0,.int .i64 0,.slice none 0 0,.slice none 0 0,.bool false] w'/\FA w' fb f)->w'.cell? ⟨x,1,none⟩=some (.slice sH.a sH.n sH.c):=fun w' h=>hp_cell h.1.P 1
 have r2:∀w':World,(PX x (x+1) #[.int .i64 S.d,.slice sH.a sH.n sH.c,.slice sR.a sR.n sR.c,.slice sP.a sP.n sP.c,.int .i64 (S.st:Int),.slice sN.a sN.n sN.c,.slice sO.a sO.n sO.c,.bool false] #[.int .i64 0,.slice none 0 0,.slice none 0 0,.slice none 0 0,.int .i64 0,.slice none 0 0,.slice none 0 0,.bool false] w'/\FA w' fb f)->w'.cell? ⟨x,2,none⟩=some (.slice sR.a sR.n sR.c):=fun w' h=>hp_cell h.1.P 2
 have r3:∀w':World,(PX x (x+1) #[.int .i64 S.d,.slice sH.a sH.n sH.c,.slice sR.a sR.n sR.c,.slice sP.a sP.n sP.c,.int .i64 (S.st:Int),.slice sN.a sN.n sN.c,.slice sO.a sO.n sO.c,.bool false] #[.int .i64 0,.slice none 0 0,.slice none 0 0,.slice none 0 0,.int .i64 0,.slice none 0 0,.slice none 0 0,.bool false] w'/\FA w' fb f)->w'.cell? ⟨x,3,none⟩=some (.slice sP.a sP.n sP.c):=fun w' h=>hp_cell h.1.P 3
 have r4:∀w':World,(PX x (x+1) #[.int .i64 S.d,.slice sH.a sH.n sH.c,.slice sR.a sR.n sR.c,.slice sP.a sP.n sP.c,.int .i64 (S.st:Int),.slice sN.a sN.n sN.c,.slice sO.a sO.n sO.c,.bool false] #[.int .i64 0,.slice none 0 0,.slice none 0 0,.slice none 0 0,.int .i64 0,.slice none 0 0,.slice none 0 0,.bool false] w'/\FA w' fb f)->w'.cell? ⟨x,4,none⟩=some (.int .i64 (S.st:Int)):=fun w' h=>hp_cell h.1.P 4
 have r5:∀w':World,(PX x (x+1) #[.int .i64 S.d,.slice sH.a sH.n sH.c,.slice sR.a sR.n sR.c,.slice sP.a sP.n sP.c,.int .i64 (S.st:Int),.slice sN.a sN.n sN.c,.slice sO.a sO.n sO.c,.bool false] #[.int .i64 0,.slice none 0 0,.slice none 0 0,.slice none 0 0,.int .i64 0,.slice none 0 0,.slice none 0 0,.bool false] w'/\FA w' fb f)->w'.cell? ⟨x,5,none⟩=some (.slice sN.a sN.n sN.c):=fun w' h=>hp_cell h.1.P 5
 have r6:∀w':World,(PX x (x+1) #[.int .i64 S.d,.slice sH.a sH.n sH.c,.slice sR.a sR.n sR.c,.slice sP.a sP.n sP.c,.int .i64 (S.st:Int),.slice sN.a sN.n sN.c,.slice sO.a sO.n sO.c,.bool false] #[.int .i64 0,.slice none 0 0,.slice none 0 0,.slice none 0 0,.int .i64 0,.slice none 0 0,.slice none 0 0,.bool false] w'/\FA w' fb f)->w'.cell? ⟨x,6,none⟩=some (.slice sO.a sO.n sO.c):=fun w' h=>hp_cell h.1.P 6
 have r7:∀w':World,(PX x (x+1) #[.int .i64 S.d,.slice sH.a sH.n sH.c,.slice sR.a sR.n sR.c,.slice sP.a sP.n sP.c,.int .i64 (S.st:Int),.slice sN.a sN.n sN.c,.slice sO.a sO.n sO.c,.bool false] #[.int .i64 0,.slice none 0 0,.slice none 0 0,.slice none 0 0,.int .i64 0,.slice none 0 0,.slice none 0 0,.bool false] w'/\FA w' fb f)->w'.cell? ⟨x,7,none⟩=some (.bool false):=fun w' h=>hp_cell h.1.P 7
 have r8:∀w':World,(PX x (x+1) #[.int .i64 S.d,.slice sH.a sH.n sH.c,.slice sR.a sR.n sR.c,.slice sP.a sP.n sP.c,.int .i64 (S.st:Int),.slice sN.a sN.n sN.c,.slice sO.a sO.n sO.c,.bool false] #[.int .i64 0,.slice none 0 0,.slice none 0 0,.slice none 0 0,.int .i64 0,.slice none 0 0,.slice none 0 0,.bool false] w'/\FA w' fb f)->w'.cell? ⟨fb,0,none⟩=some (.string s0):=fun w' h=>(h.2.cell 0 hne).trans (by rw[HS0.out])
 refine wp_region_L (T:=fun w'=>PX x (x+1) #[.int .i64 S.d,.slice sH.a sH.n sH.c,.slice sR.a sR.n sR.c,.slice sP.a sP.n sP.c,.int .i64 (S.st:Int),.slice sN.a sN.n sN.c,.slice sO.a sO.n sO.c,.bool false] #[.int .i64 0,.slice none 0 0,.slice none 0 0,.slice none 0 0,.int .i64 0,.slice none 0 0,.slice none 0 0,.bool false] w'/\FA w' fb f) (s:=6) (by kernel_rfl) TD (fun hHeld=>?_)
 clear TD M0 F0 P0 A0 c0 c1 c2 c3 c4 c5 c6 c7 g0
 generalize u.drew=t0 at hHeld MD FD hBd⊢
 refine wpAnyL_tk 0 ?k1v rfl ?k1y ?k1r
 case k1y=>(intro w hSw;(try dsimp only at hSw);go_simp;try with_reducible rfl)
 try go_frame
 refine wpAnyL_tk 1 ?k2v rfl ?k2y ?k2r
 case k2y=>(intro w hSw;(try dsimp only at hSw);go_simp;try with_reducible rfl)
 try go_frame
 refine wpAnyL_tk 2 ?k3v rfl ?k3y ?k3r
 case k3y=>(intro w hSw;(try dsimp only at hSw);go_simp;try with_reducible rfl)
 try go_frame
 refine wpAnyL_tk 3 ?k4v rfl ?k4y ?k4r
 case k4y=>(intro w hSw;(try dsimp only at hSw);go_simp;try with_reducible rfl)
 try go_frame
 refine wpAnyL_tk 4 ?k5v rfl ?k5y ?k5r
 case k5y=>(intro w hSw;(try dsimp only at hSw);go_simp;try with_reducible rfl)
 try go_frame
 refine wpAnyL_call (i:=5) rfl (by kernel_rfl) (fun KK hK=>?_)
 go_simp
 refine(l6Close_any B S sH sR sP sN sO bv f false t0 hBd MD.out H3.out hbl hp H2.out ho6 HTH.out).mono ?_
 rintro e u9⟨hf9,he⟩
 rw[<-HSO.out]at he
 have T9:PX x (x+1) #[.int .i64 S.d,.slice sH.a sH.n sH.c,.slice sR.a sR.n sR.c,.slice sP.a sP.n sP.c,.int .i64 (S.st:Int),.slice sN.a sN.n sN.c,.slice sO.a sO.n sO.c,.bool false] #[.int .i64 0,.slice none 0 0,.slice none 0 0,.slice none 0 0,.int .i64 0,.slice none 0 0,.slice none 0 0,.bool false] u9/\FA u9 fb f:=⟨hHeld.1.fm hf9,hHeld.2.fm hf9 (by decide)⟩
 have P9:Hid (PX x (x+1) #[.int .i64 S.d,.slice sH.a sH.n sH.c,.slice sR.a sR.n sR.c,.slice sP.a sP.n sP.c,.int .i64 (S.st:Int),.slice sN.a sN.n sN.c,.slice sO.a sO.n sO.c,.bool false] #[.int .i64 0,.slice none 0 0,.slice none 0 0,.slice none 0 0,.int .i64 0,.slice none 0 0,.slice none 0 0,.bool false] u9):=T9.1
 have F9:Hid (Fm tsM B w u9):=FD.out.trans hf9
 clear hf9
 cases RR with
 |none=>
  obtain⟨d9,st9,qH,qR,qP,qN,qO,rfl⟩:=he
  refine hK.out _ _ T9 (fun hHeld9=>?_)
  clear hK KK hHeld hHeld9 T9 r0 r1 r2 r3 r4 r5 r6 r7 r8
  obtain⟨z0,z1,z2,z3,z4,z5,z6,z7⟩:=hp8 P9.out.R
  have f9:=hp_frz P9.out.R
  refine wpAnyL_store rfl (by kernel_rfl) (by kernel_rfl) (fun KK hK=>?_)
  go_simp
  refine hK.out _ _ ?_
  clear hK KK
  go_wp2
  refine bodyPost_ret (v:=.agg #[.int .i64 d9,.slice qH.a qH.n qH.c,.slice qR.a qR.n qR.c,.slice qP.a qP.n qP.c,.int .i64 st9,.slice qN.a qN.n qN.c,.slice qO.a qO.n qO.c,.bool true]) (by simp[results,Tryz.results25,go_sem,z0,z1,z2,z3,z4,z5,z6,z7]) rfl ?_
  exact⟨F9.out.put8 (by have:=HX.out;omega) (by omega) _ _ _ _ _ _ _ _,d9,st9,qH,qR,qP,qN,qO,rfl⟩
 |some S'=>
  obtain⟨qH,qR,qP,qN,qO,bq,rfl,hmq⟩:=he
  have M9:Hid (MS u9 B S' qH qR qP qN qO bq):=hmq
  refine hK.out _ _ T9 (fun hHeld9=>?_)
  clear hK KK hHeld hHeld9 T9 r0 r1 r2 r3 r4 r5 r6 r7 r8 hmq
  obtain⟨z0,z1,z2,z3,z4,z5,z6,z7⟩:=hp8 P9.out.R
  have f9:=hp_frz P9.out.R
  refine wpAnyL_store rfl (by kernel_rfl) (by kernel_rfl) (fun KK hK=>?_)
  go_simp
  refine hK.out _ _ ?_
  clear hK KK
  go_wp2
  refine bodyPost_ret (v:=.agg #[.int .i64 S'.d,.slice qH.a qH.n qH.c,.slice qR.a qR.n qR.c,.slice qP.a qP.n qP.c,.int .i64 (S'.st:Int),.slice qN.a qN.n qN.c,.slice qO.a qO.n qO.c,.bool false]) (by simp[results,Tryz.results25,go_sem,z0,z1,z2,z3,z4,z5,z6,z7]) rfl ?_
  exact⟨F9.out.put8 (by have:=HX.out;omega) (by omega) _ _ _ _ _ _ _ _,qH,qR,qP,qN,qO,bq,rfl,M9.out.put8 P9.out _ _ _ _ _ _ _ _⟩
theorem l6Stmt_call(B:Nat)(S:PS)(sH sR sP sN sO:Sl)(bv:List Value)(l:List UInt8)(f:List (List UInt8))(fb fc:Nat)(w:World)(hB:B<=w.heap.size)(hm:MS w B S sH sR sP sN sO bv)(h3:S.st=3)(hbl:(bodS S).length<=1000000)(hp:S.ps.length<=1000000)(_ho6:S.op.length<=1000000)(hth:∀o∈S.op,0<=o.th/\o.th<=1000000)(hf:FA w fb f)(hl:∀i,((stB (fd f i)).size:Int)<=200000)(_hll:((stB l).size:Int)<=200000)(hne:0<f.length)(hlf:f.length<=200001)(hw:fd f 0=[99,97,108,108]):
 Calls Tryz.prog 25 #[.agg #[.int .i64 S.d,.slice sH.a sH.n sH.c,.slice sR.a sR.n sR.c,.slice sP.a sP.n sP.c,.int .i64 (S.st:Int),.slice sN.a sN.n sN.c,.slice sO.a sO.n sO.c,.bool false],.string (stB l),.slice (some ⟨fb,0,none⟩) f.length fc] w fun e w'=>MR B w (stmS S l f) e w':=by
 obtain⟨RR,hRR⟩:∃y,stmS S l f=y:=⟨_,rfl⟩
 rw[hRR];have HRR:Hid (stmS S l f=RR):=hRR;have M:Hid (MS w B S sH sR sP sN sO bv):=hm;have H3:Hid (S.st=3):=h3;have HTH:Hid (∀o∈S.op,0<=o.th/\o.th<=1000000):=hth;have HL:Hid (∀i,((stB (fd f i)).size:Int)<=200000):=hl;have HF:Hid (FA w fb f):=hf;clear hm hf hl h3 hth hRR;go_enter Tryz.func25,Tryz.ntmps25;go_upto_region 1 with fail;obtain⟨u,hu,p0,bu⟩:∃y,((w.alloc (.cells #[.int .i64 S.d,.slice sH.a sH.n sH.c,.slice sR.a sR.n sR.c,.slice sP.a sP.n sP.c,.int .i64 (S.st:Int),.slice sN.a sN.n sN.c,.slice sO.a sO.n sO.c,.bool false] 45)).alloc (.cells #[.int .i64 0,.slice none 0 0,.slice none 0 0,.slice none 0 0,.int .i64 0,.slice none 0 0,.slice none 0 0,.bool false] 45))=y/\PX w.heap.size (w.heap.size+1) #[.int .i64 S.d,.slice sH.a sH.n sH.c,.slice sR.a sR.n sR.c,.slice sP.a sP.n sP.c,.int .i64 (S.st:Int),.slice sN.a sN.n sN.c,.slice sO.a sO.n sO.c,.bool false] #[.int .i64 0,.slice none 0 0,.slice none 0 0,.slice none 0 0,.int .i64 0,.slice none 0 0,.slice none 0 0,.bool false] y/\Below w.heap.size w y:=⟨_,rfl,px_new w _ _,two_below w _ _⟩
 rw[hu];obtain⟨x,hx⟩:∃y,w.heap.size=y:=⟨_,rfl⟩
 rw[hx]at p0⊢;have HX:Hid (w.heap.size=x):=hx;have P0:Hid (PX x (x+1) #[.int .i64 S.d,.slice sH.a sH.n sH.c,.slice sR.a sR.n sR.c,.slice sP.a sP.n sP.c,.int .i64 (S.st:Int),.slice sN.a sN.n sN.c,.slice sO.a sO.n sO.c,.bool false] #[.int .i64 0,.slice none 0 0,.slice none 0 0,.slice none 0 0,.int .i64 0,.slice none 0 0,.slice none 0 0,.bool false] u):=p0;have F0:Hid (Fm tsM B w u):=Fm.of_below bu hB;have M0:Hid (MS u B S sH sR sP sN sO bv):=M.out.below bu;have hBx:B<=x:=by omega
 have hBu:B<=u.heap.size:=by have:=bu.size;omega
 have A0:Hid (FA u fb f):=HF.out.below bu;obtain⟨c0,c1,c2,c3,c4,c5,c6,c7⟩:=hp8 p0.P;have e0:(0:Int)<(f.length:Int):=by omega
 have HXS:Hid (x+1<u.heap.size):=(Array.getElem?_eq_some_iff.1 p0.R).1;clear hu hx p0 bu HF M;obtain⟨s0,hs0⟩:∃y,stB (fd f 0)=y:=⟨_,rfl⟩
 obtain⟨s1,hs1⟩:∃y,stB (fd f 1)=y:=⟨_,rfl⟩
 obtain⟨sl,hsl⟩:∃y,stB l=y:=⟨_,rfl⟩
 have HS0:Hid (stB (fd f 0)=s0):=hs0;have HS1:Hid (stB (fd f 1)=s1):=hs1;have HSL:Hid (stB l=sl):=hsl;have g0:u.cell? ⟨fb,0,none⟩=some (.string s0):=(A0.out.cell 0 hne).trans (by rw[hs0]);have hz1:(s1.size:Int)<=200000:=by rw[<-hs1];exact HL.out 1
 rw[hsl];have WD:Hid (s1.data.toList=fd f 1):=(by rw[<-hs1];simp[stB]:s1.data.toList=fd f 1)
 have WL:Hid (sl.data.toList=l):=(by rw[<-hsl];simp[stB]:sl.data.toList=l)
 clear hs0 hs1 hsl;obtain⟨n0,n0'⟩:=beqF (a:=[105,102]) HS0.out (by rw[hw];decide);obtain⟨n1,n1'⟩:=beqF (a:=[119,104,105,108,101]) HS0.out (by rw[hw];decide);obtain⟨n2,n2'⟩:=beqF (a:=[101,108,115,101]) HS0.out (by rw[hw];decide);obtain⟨n3,n3'⟩:=beqF (a:=[101,110,100]) HS0.out (by rw[hw];decide);obtain⟨q4,q4'⟩:=beqT HS0.out hw;have HSO:Hid (RR=calS S f):=(by rw[<-HRR.out];unfold stmS;rw[if_pos H3.out,if_neg (show fd f 0≠[105,102]by rw[hw];decide),if_neg (show fd f 0≠[119,104,105,108,101]by rw[hw];decide),if_neg (show fd f 0≠[101,108,115,101]by rw[hw];decide),if_neg (show fd f 0≠[101,110,100]by rw[hw];decide),if_pos hw]:RR=calS S f)
 clear hw;by_cases h2:f.length=2
 rotate_left
 ·have e2:((f.length:Int) !=2)=true:=by rw[bne_iff_ne];omega
  have HR:Hid (RR=none):=(by rw[HSO.out];unfold calS;rw[if_neg h2]:RR=none)
  clear h2;go_wp2_with fail;refine(l6Bad_any S.d (S.st:Int) sH sR sP sN sO false u).mono ?_;rintro e u9⟨rfl,hb9⟩;have P9:=P0.out.below hb9;have F9:Hid (Fm tsM B w u9):=F0.out.below hb9 hBu;obtain⟨z0,z1,z2,z3,z4,z5,z6,z7⟩:=hp8 P9.R;have f9:=hp_frz P9.R;clear hb9;go_wp2;refine bodyPost_ret (v:=.agg #[.int .i64 S.d,.slice sH.a sH.n sH.c,.slice sR.a sR.n sR.c,.slice sP.a sP.n sP.c,.int .i64 (S.st:Int),.slice sN.a sN.n sN.c,.slice sO.a sO.n sO.c,.bool true]) (by simp[results,Tryz.results25,go_sem,z0,z1,z2,z3,z4,z5,z6,z7]) rfl ?_;unfold MR;rw[HR.out];exact⟨F9.out.put8 (by have:=HX.out;omega) (by omega) _ _ _ _ _ _ _ _,S.d,(S.st:Int),sH,sR,sP,sN,sO,rfl⟩
 have e2:((f.length:Int) !=2)=false:=by rw[bne_eq_false_iff_eq];omega
 have e3:(1:Int)<(f.length:Int):=by omega
 have g1:u.cell? ⟨fb,1,none⟩=some (.string s1):=(A0.out.cell 1 (by omega)).trans (by rw[HS1.out]);have H2:Hid (f.length=2):=h2;clear h2;go_wp2_with fail;refine(l6Number_any s1 false u hz1).mono ?_;rintro e u1⟨he,hu1⟩;rw[hu1];rw[WD.out]at he;clear hu1;cases hr:numW false (fd f 1)with
 |none=>
  rw[hr]at he;obtain⟨j,rfl⟩:=he;have HR:Hid (RR=none):=(by rw[HSO.out];unfold calS;rw[if_pos H2.out,hr];rfl:RR=none)
  clear hr;go_wp2_with fail;refine(l6Bad_any S.d (S.st:Int) sH sR sP sN sO false u).mono ?_;rintro e u9⟨rfl,hb9⟩;have P9:=P0.out.below hb9;have F9:Hid (Fm tsM B w u9):=F0.out.below hb9 hBu;obtain⟨z0,z1,z2,z3,z4,z5,z6,z7⟩:=hp8 P9.R;have f9:=hp_frz P9.R;clear hb9;go_wp2;refine bodyPost_ret (v:=.agg #[.int .i64 S.d,.slice sH.a sH.n sH.c,.slice sR.a sR.n sR.c,.slice sP.a sP.n sP.c,.int .i64 (S.st:Int),.slice sN.a sN.n sN.c,.slice sO.a sO.n sO.c,.bool true]) (by simp[results,Tryz.results25,go_sem,z0,z1,z2,z3,z4,z5,z6,z7]) rfl ?_;unfold MR;rw[HR.out];exact⟨F9.out.put8 (by have:=HX.out;omega) (by omega) _ _ _ _ _ _ _ _,S.d,(S.st:Int),sH,sR,sP,sN,sO,rfl⟩
 |some n=>
  rw[hr]at he;have he':e=.returned (.tuple #[.bool true,.int .i64 n]):=he;subst he';have HR:Hid (RR=some (addS S (⟨4,0,0,0,0,0,0,0,0,0,n⟩:SV))):=(by rw[HSO.out];unfold calS;rw[if_pos H2.out,hr];rfl:RR=some (addS S (⟨4,0,0,0,0,0,0,0,0,0,n⟩:SV)))
  clear hr he;go_wp2_with fail;refine(l6Put_op B S S.op sH sR sP sN sO bv 4 0 n 0 0 0 0 0 0 u hBu M0.out.m0 (M0.out.I.ps H3.out) (M0.out.I.add _ H3.out) hbl hp).mono ?_;rintro e u9⟨bv9,f9',rfl,m9⟩;have P9:Hid (PX x (x+1) #[.int .i64 S.d,.slice sH.a sH.n sH.c,.slice sR.a sR.n sR.c,.slice sP.a sP.n sP.c,.int .i64 (S.st:Int),.slice sN.a sN.n sN.c,.slice sO.a sO.n sO.c,.bool false] #[.int .i64 0,.slice none 0 0,.slice none 0 0,.slice none 0 0,.int .i64 0,.slice none 0 0,.slice none 0 0,.bool false] u9):=P0.out.fm f9';have F9:Hid (Fm tsM B w u9):=F0.out.trans f9';have M9:Hid (MS u9 B (addS S (⟨4,0,0,0,0,0,0,0,0,0,n⟩:SV)) sH sR sP sN sO bv9):=m9;clear f9' m9;obtain⟨z0,z1,z2,z3,z4,z5,z6,z7⟩:=hp8 P9.out.R;have f9:=hp_frz P9.out.R;go_wp2;refine bodyPost_ret (v:=.agg #[.int .i64 S.d,.slice sH.a sH.n sH.c,.slice sR.a sR.n sR.c,.slice sP.a sP.n sP.c,.int .i64 (S.st:Int),.slice sN.a sN.n sN.c,.slice sO.a sO.n sO.c,.bool false]) (by simp[results,Tryz.results25,go_sem,z0,z1,z2,z3,z4,z5,z6,z7]) rfl ?_;unfold MR;rw[HR.out];exact⟨F9.out.put8 (by have:=HX.out;omega) (by omega) _ _ _ _ _ _ _ _,sH,sR,sP,sN,sO,_,rfl,M9.out.put8 P9.out _ _ _ _ _ _ _ _⟩
end Go.Proofs.YtblfmpgdhpbffaaGreatDoor
