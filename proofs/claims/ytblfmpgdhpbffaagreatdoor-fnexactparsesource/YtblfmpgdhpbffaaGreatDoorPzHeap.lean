import Derived.Test.YtblfmpgdhpbffaaGreatDoorOfPzCell
set_option maxHeartbeats 6400000
set_option maxRecDepth 20000
namespace Go.Proofs.YtblfmpgdhpbffaaGreatDoor
open Go.RowKit
theorem secW_cases(l:List UInt8):(l=[112,117,98,108,105,99]/\secW l=some false)∨(l=[115,101,99,114,101,116]/\secW l=some true)∨(l≠[112,117,98,108,105,99]/\l≠[115,101,99,114,101,116]/\secW l=none):=by
 unfold secW;by_cases h1:l=[112,117,98,108,105,99]
 ·exact .inl ⟨h1,by rw[if_pos h1]⟩
 ·by_cases h2:l=[115,101,99,114,101,116]
  ·exact .inr (.inl ⟨h2,by rw[if_neg h1,if_pos h2]⟩)
  ·exact .inr (.inr ⟨h1,h2,by rw[if_neg h1,if_neg h2]⟩)
theorem wrtW_cases(l:List UInt8):(l=[114,101,97,100]/\wrtW l=some false)∨(l=[119,114,105,116,101]/\wrtW l=some true)∨(l≠[114,101,97,100]/\l≠[119,114,105,116,101]/\wrtW l=none):=by
 unfold wrtW;by_cases h1:l=[114,101,97,100]
 ·exact .inl ⟨h1,by rw[if_pos h1]⟩
 ·by_cases h2:l=[119,114,105,116,101]
  ·exact .inr (.inl ⟨h2,by rw[if_neg h1,if_pos h2]⟩)
  ·exact .inr (.inr ⟨h1,h2,by rw[if_neg h1,if_neg h2]⟩)
theorem info_heap:(Tryz.prog.info? 88).map (fun i=>(i.zero,i.size,i.bytes))=some (some (.agg #[.int .i64 0,.bool false,.bool false]),3,16):=by kernel_rfl
theorem l6Heap_any(B:Nat)(S:PS)(sH sR sP sN sO:Sl)(bv:List Value)(f:List (List UInt8))(fb fc:Nat)(w:World)(hB:B<=w.heap.size)(hm:MS w B S sH sR sP sN sO bv)(hf:FA w fb f)(hl:∀i,((stB (fd f i)).size:Int)<=200000):
 Calls Tryz.prog 23 #[.agg #[.int .i64 S.d,.slice sH.a sH.n sH.c,.slice sR.a sR.n sR.c,.slice sP.a sP.n sP.c,.int .i64 (S.st:Int),.slice sN.a sN.n sN.c,.slice sO.a sO.n sO.c,.bool false],.slice (some ⟨fb,0,none⟩) f.length fc] w fun e w'=>MR B w (heapS S f) e w':=by
 have M:Hid (MS w B S sH sR sP sN sO bv):=hm
 have HL:Hid (∀i,((stB (fd f i)).size:Int)<=200000):=hl
 have HF:Hid (FA w fb f):=hf
 have hs8:=hm.I.hs
 have HNH:Hid (sH.n=S.hs.length):=row_n (hm.R.own 2 _ rfl)
 clear hm hf hl
 go_enter Tryz.func23,Tryz.ntmps23
 go_upto_region 1 with fail
 obtain⟨u,hu,p0,bu⟩:∃y,((w.alloc (.cells #[.int .i64 S.d,.slice sH.a sH.n sH.c,.slice sR.a sR.n sR.c,.slice sP.a sP.n sP.c,.int .i64 (S.st:Int),.slice sN.a sN.n sN.c,.slice sO.a sO.n sO.c,.bool false] 45)).alloc (.cells #[.int .i64 0,.slice none 0 0,.slice none 0 0,.slice none 0 0,.int .i64 0,.slice none 0 0,.slice none 0 0,.bool false] 45))=y/\PX w.heap.size (w.heap.size+1) #[.int .i64 S.d,.slice sH.a sH.n sH.c,.slice sR.a sR.n sR.c,.slice sP.a sP.n sP.c,.int .i64 (S.st:Int),.slice sN.a sN.n sN.c,.slice sO.a sO.n sO.c,.bool false] #[.int .i64 0,.slice none 0 0,.slice none 0 0,.slice none 0 0,.int .i64 0,.slice none 0 0,.slice none 0 0,.bool false] y/\Below w.heap.size w y:=⟨_,rfl,px_new w _ _,two_below w _ _⟩
 rw[hu]
 obtain⟨x,hx⟩:∃y,w.heap.size=y:=⟨_,rfl⟩
 rw[hx]at p0⊢
 have HX:Hid (w.heap.size=x):=hx
 have P0:Hid (PX x (x+1) #[.int .i64 S.d,.slice sH.a sH.n sH.c,.slice sR.a sR.n sR.c,.slice sP.a sP.n sP.c,.int .i64 (S.st:Int),.slice sN.a sN.n sN.c,.slice sO.a sO.n sO.c,.bool false] #[.int .i64 0,.slice none 0 0,.slice none 0 0,.slice none 0 0,.int .i64 0,.slice none 0 0,.slice none 0 0,.bool false] u):=p0
 have F0:Hid (Fm tsM B w u):=Fm.of_below bu hB
 have M0:Hid (MS u B S sH sR sP sN sO bv):=M.out.below bu
 have hBx:B<=x:=by omega
 have hBu:B<=u.heap.size:=by have:=bu.size;omega
 have A0:Hid (FA u fb f):=HF.out.below bu
 obtain⟨c0,c1,c2,c3,c4,c5,c6,c7⟩:=hp8 p0.P
 clear hu hx p0 bu HF M
 by_cases h1:S.st=1
 rotate_left
 ·have e1:((S.st:Int) !=1)=true:=by rw[bne_iff_ne];omega
  have HR:Hid (heapS S f=none):=(by unfold heapS;rw[if_neg (fun h=>h1 h.1)]:heapS S f=none)
  go_wp2_with fail
  refine(l6Bad_any S.d (S.st:Int) sH sR sP sN sO false u).mono ?_
  rintro e u9⟨rfl,hb9⟩
  have P9:=P0.out.below hb9
  have F9:Hid (Fm tsM B w u9):=F0.out.below hb9 hBu
  obtain⟨z0,z1,z2,z3,z4,z5,z6,z7⟩:=hp8 P9.R
  have f9:=hp_frz P9.R
  clear hb9
  go_wp2
  refine bodyPost_ret (v:=.agg #[.int .i64 S.d,.slice sH.a sH.n sH.c,.slice sR.a sR.n sR.c,.slice sP.a sP.n sP.c,.int .i64 (S.st:Int),.slice sN.a sN.n sN.c,.slice sO.a sO.n sO.c,.bool true]) (by simp[results,Tryz.results23,go_sem,z0,z1,z2,z3,z4,z5,z6,z7]) rfl ?_
  unfold MR
  rw[HR.out]
  exact⟨F9.out.put8 (by have:=HX.out;omega) (by omega) _ _ _ _ _ _ _ _,_,_,_,_,_,_,_,rfl⟩
 have e1:((S.st:Int) !=1)=false:=by rw[bne_eq_false_iff_eq];omega
 have H1:Hid (S.st=1):=h1
 clear h1
 by_cases h2:f.length=4
 rotate_left
 ·have e2:((f.length:Int) !=4)=true:=by rw[bne_iff_ne];omega
  have HR:Hid (heapS S f=none):=(by unfold heapS;rw[if_neg (fun h=>h2 h.2.1)]:heapS S f=none)
  go_wp2_with fail
  refine(l6Bad_any S.d (S.st:Int) sH sR sP sN sO false u).mono ?_
  rintro e u9⟨rfl,hb9⟩
  have P9:=P0.out.below hb9
  have F9:Hid (Fm tsM B w u9):=F0.out.below hb9 hBu
  obtain⟨z0,z1,z2,z3,z4,z5,z6,z7⟩:=hp8 P9.R
  have f9:=hp_frz P9.R
  clear hb9
  go_wp2
  refine bodyPost_ret (v:=.agg #[.int .i64 S.d,.slice sH.a sH.n sH.c,.slice sR.a sR.n sR.c,.slice sP.a sP.n sP.c,.int .i64 (S.st:Int),.slice sN.a sN.n sN.c,.slice sO.a sO.n sO.c,.bool true]) (by simp[results,Tryz.results23,go_sem,z0,z1,z2,z3,z4,z5,z6,z7]) rfl ?_
  unfold MR
  rw[HR.out]
  exact⟨F9.out.put8 (by have:=HX.out;omega) (by omega) _ _ _ _ _ _ _ _,_,_,_,_,_,_,_,rfl⟩
 have e2:((f.length:Int) !=4)=false:=by rw[bne_eq_false_iff_eq];omega
 have e4:(1:Int)<(f.length:Int):=by omega
 have e5:(2:Int)<(f.length:Int):=by omega
 have e6:(3:Int)<(f.length:Int):=by omega
 have H2:Hid (f.length=4):=h2
 clear h2
 by_cases h3:S.hs.length=8
 ·have e3:((sH.n:Int)==8)=true:=by rw[beq_iff_eq];have:=HNH.out;omega
  have HR:Hid (heapS S f=none):=(by unfold heapS;rw[if_neg (fun h=>h.2.2 h3)]:heapS S f=none)
  go_wp2_with fail
  refine(l6Bad_any S.d (S.st:Int) sH sR sP sN sO false u).mono ?_
  rintro e u9⟨rfl,hb9⟩
  have P9:=P0.out.below hb9
  have F9:Hid (Fm tsM B w u9):=F0.out.below hb9 hBu
  obtain⟨z0,z1,z2,z3,z4,z5,z6,z7⟩:=hp8 P9.R
  have f9:=hp_frz P9.R
  clear hb9
  go_wp2
  refine bodyPost_ret (v:=.agg #[.int .i64 S.d,.slice sH.a sH.n sH.c,.slice sR.a sR.n sR.c,.slice sP.a sP.n sP.c,.int .i64 (S.st:Int),.slice sN.a sN.n sN.c,.slice sO.a sO.n sO.c,.bool true]) (by simp[results,Tryz.results23,go_sem,z0,z1,z2,z3,z4,z5,z6,z7]) rfl ?_
  unfold MR
  rw[HR.out]
  exact⟨F9.out.put8 (by have:=HX.out;omega) (by omega) _ _ _ _ _ _ _ _,_,_,_,_,_,_,_,rfl⟩
 have e3:((sH.n:Int)==8)=false:=by rw[beq_eq_false_iff_ne];have:=HNH.out;omega
 have H3:Hid (S.hs.length≠8):=h3
 obtain⟨s1,hs1⟩:∃y,stB (fd f 1)=y:=⟨_,rfl⟩
 obtain⟨s2,hs2⟩:∃y,stB (fd f 2)=y:=⟨_,rfl⟩
 obtain⟨s3,hs3⟩:∃y,stB (fd f 3)=y:=⟨_,rfl⟩
 have g1:u.cell? ⟨fb,1,none⟩=some (.string s1):=(A0.out.cell 1 (by omega)).trans (by rw[hs1])
 have g2:u.cell? ⟨fb,2,none⟩=some (.string s2):=(A0.out.cell 2 (by omega)).trans (by rw[hs2])
 have g3:u.cell? ⟨fb,3,none⟩=some (.string s3):=(A0.out.cell 3 (by omega)).trans (by rw[hs3])
 have HS2:Hid (stB (fd f 2)=s2):=hs2
 have HS3:Hid (stB (fd f 3)=s3):=hs3
 have hz1:(s1.size:Int)<=200000:=by rw[<-hs1];exact HL.out 1
 have HW:Hid (numW false s1.data.toList=numW false (fd f 1)):=(by rw[<-hs1];simp[stB]:numW false s1.data.toList=numW false (fd f 1))
 have HH:Hid (sH.n=S.hs.length/\S.hs.length≠8):=⟨HNH.out,h3⟩
 clear h3 hs1 hs2 hs3
 go_wp2_with fail
 refine(l6Number_any s1 false u hz1).mono ?_
 rintro e u1⟨he,hu1⟩
 rw[hu1]
 clear hu1
 cases hr1:numW false (fd f 1)with
 |none=>
  rw[HW.out,hr1]at he
  obtain⟨j,rfl⟩:=he
  have HR:Hid (heapS S f=none):=(by unfold heapS;rw[if_pos ⟨H1.out,H2.out,H3.out⟩,hr1]:heapS S f=none)
  clear hr1
  go_wp2_with fail
  refine(l6Bad_any S.d (S.st:Int) sH sR sP sN sO false u).mono ?_
  rintro e u9⟨rfl,hb9⟩
  have P9:=P0.out.below hb9
  have F9:Hid (Fm tsM B w u9):=F0.out.below hb9 hBu
  obtain⟨z0,z1,z2,z3,z4,z5,z6,z7⟩:=hp8 P9.R
  have f9:=hp_frz P9.R
  clear hb9
  go_wp2
  refine bodyPost_ret (v:=.agg #[.int .i64 S.d,.slice sH.a sH.n sH.c,.slice sR.a sR.n sR.c,.slice sP.a sP.n sP.c,.int .i64 (S.st:Int),.slice sN.a sN.n sN.c,.slice sO.a sO.n sO.c,.bool true]) (by simp[results,Tryz.results23,go_sem,z0,z1,z2,z3,z4,z5,z6,z7]) rfl ?_
  unfold MR
  rw[HR.out]
  exact⟨F9.out.put8 (by have:=HX.out;omega) (by omega) _ _ _ _ _ _ _ _,_,_,_,_,_,_,_,rfl⟩
 |some a=>
  rw[HW.out,hr1]at he
  have he':e=.returned (.tuple #[.bool true,.int .i64 a]):=he
  subst he'
  clear he
  rcases secW_cases (fd f 2)with⟨w2,k2⟩|⟨w2,k2⟩|⟨w2,w2',k2⟩
  ·obtain⟨q1,q2⟩:=beqT HS2.out w2
   obtain⟨q3,q4⟩:=beqF (a:=[115,101,99,114,101,116]) HS2.out (by rw[w2];decide)
   rcases wrtW_cases (fd f 3)with⟨w3,k3⟩|⟨w3,k3⟩|⟨w3,w3',k3⟩
   ·obtain⟨q5,q6⟩:=beqT HS3.out w3
    obtain⟨q7,q8⟩:=beqF (a:=[119,114,105,116,101]) HS3.out (by rw[w3];decide)
    have HR:Hid (heapS S f=some {S with hs:=S.hs++[⟨a,false,false⟩]}):=(by unfold heapS;rw[if_pos ⟨H1.out,H2.out,H3.out⟩,hr1,k2,k3]:heapS S f=some {S with hs:=S.hs++[⟨a,false,false⟩]})
    obtain⟨iS,gS,gS0,gS1,gS2⟩:=info4 info_heap
    have HIS:Hid (_/\_/\_/\_):=⟨gS,gS0,gS1,gS2⟩
    clear gS gS0 gS1 gS2 hr1 k2 k3 w2 w3
    go_upto_region 6 with fail
    have r0:∀w':World,(PX x (x+1) #[.int .i64 S.d,.slice sH.a sH.n sH.c,.slice sR.a sR.n sR.c,.slice sP.a sP.n sP.c,.int .i64 (S.st:Int),.slice sN.a sN.n sN.c,.slice sO.a sO.n sO.c,.bool false] #[.int .i64 0,.slice none 0 0,.slice none 0 0,.slice none 0 0,.int .i64 0,.slice none 0 0,.slice none 0 0,.bool false] w'/\FA w' fb f)->w'.cell? ⟨x,1,none⟩=some (.slice sH.a sH.n sH.c):=fun w' h=>hp_cell h.1.P 1
    have r1:∀w':World,(PX x (x+1) #[.int .i64 S.d,.slice sH.a sH.n sH.c,.slice sR.a sR.n sR.c,.slice sP.a sP.n sP.c,.int .i64 (S.st:Int),.slice sN.a sN.n sN.c,.slice sO.a sO.n sO.c,.bool false] #[.int .i64 0,.slice none 0 0,.slice none 0 0,.slice none 0 0,.int .i64 0,.slice none 0 0,.slice none 0 0,.bool false] w'/\FA w' fb f)->w'.cell? ⟨fb,2,none⟩=some (.string s2):=fun w' h=>(h.2.cell 2 (by omega)).trans (by rw[HS2.out])
    have r2:∀w':World,(PX x (x+1) #[.int .i64 S.d,.slice sH.a sH.n sH.c,.slice sR.a sR.n sR.c,.slice sP.a sP.n sP.c,.int .i64 (S.st:Int),.slice sN.a sN.n sN.c,.slice sO.a sO.n sO.c,.bool false] #[.int .i64 0,.slice none 0 0,.slice none 0 0,.slice none 0 0,.int .i64 0,.slice none 0 0,.slice none 0 0,.bool false] w'/\FA w' fb f)->w'.cell? ⟨fb,3,none⟩=some (.string s3):=fun w' h=>(h.2.cell 3 (by omega)).trans (by rw[HS3.out])
    have TD:PX x (x+1) #[.int .i64 S.d,.slice sH.a sH.n sH.c,.slice sR.a sR.n sR.c,.slice sP.a sP.n sP.c,.int .i64 (S.st:Int),.slice sN.a sN.n sN.c,.slice sO.a sO.n sO.c,.bool false] #[.int .i64 0,.slice none 0 0,.slice none 0 0,.slice none 0 0,.int .i64 0,.slice none 0 0,.slice none 0 0,.bool false] u.drew/\FA u.drew fb f:=⟨P0.out.below (Below.refl _ _).drew,A0.out.below (Below.refl _ _).drew⟩
    have MD:Hid (MS u.drew B S sH sR sP sN sO bv):=M0.out.below (Below.refl _ _).drew
    have FD:Hid (Fm tsM B w u.drew):=F0.out.below (Below.refl _ _).drew hBu
    have hBd:B<=u.drew.heap.size:=hBu
    refine wp_region_L (T:=fun w'=>PX x (x+1) #[.int .i64 S.d,.slice sH.a sH.n sH.c,.slice sR.a sR.n sR.c,.slice sP.a sP.n sP.c,.int .i64 (S.st:Int),.slice sN.a sN.n sN.c,.slice sO.a sO.n sO.c,.bool false] #[.int .i64 0,.slice none 0 0,.slice none 0 0,.slice none 0 0,.int .i64 0,.slice none 0 0,.slice none 0 0,.bool false] w'/\FA w' fb f) (s:=19) (by kernel_rfl) TD (fun hHeld=>?_)
    clear TD M0 F0 P0 A0 g1 g2 g3
    generalize u.drew=t0 at hHeld MD FD hBd⊢
    refine wpAnyL_tk 0 ?k1v rfl ?k1y ?k1r
    case k1y=>(intro w hSw;(try dsimp only at hSw);go_simp;try with_reducible rfl)
    try go_frame
    refine wpAnyL_tk 1 ?k2v rfl ?k2y ?k2r
    case k2y=>(intro w hSw;(try dsimp only at hSw);go_simp;try with_reducible rfl)
    try go_frame
    refine wpAnyL_tk 2 ?k3v rfl ?k3y ?k3r
    case k3y=>(intro w hSw;(try dsimp only at hSw);go_simp;try with_reducible rfl)
    try go_frame
    refine wpAnyL_tk 3 ?k4v rfl ?k4y ?k4r
    case k4y=>(intro w hSw;(try dsimp only at hSw);go_simp;try with_reducible rfl)
    try go_frame
    refine wpAnyL_tk 4 ?k5v rfl ?k5y ?k5r
    case k5y=>(intro w hSw;(try dsimp only at hSw);go_simp;try with_reducible rfl)
    try go_frame
    refine wpAnyL_tk 5 ?k6v rfl ?k6y ?k6r
    case k6y=>(intro w hSw;(try dsimp only at hSw);go_simp;try with_reducible rfl)
    try go_frame
    refine wpAnyL_tk 6 ?k7v rfl ?k7y ?k7r
    case k7y=>(intro w hSw;(try dsimp only at hSw);go_simp;try with_reducible rfl)
    try go_frame
    refine wpAnyL_tk 7 ?k8v rfl ?k8y ?k8r
    case k8y=>(intro w hSw;(try dsimp only at hSw);go_simp;try with_reducible rfl)
    try go_frame
    refine wpAnyL_tk 8 ?k9v rfl ?k9y ?k9r
    case k9y=>(intro w hSw;(try dsimp only at hSw);go_simp;try with_reducible rfl)
    try go_frame
    refine wpAnyL_tk 9 ?k10v rfl ?k10y ?k10r
    case k10y=>(intro w hSw;(try dsimp only at hSw);go_simp;try with_reducible rfl)
    try go_frame
    refine wpAnyL_tk 10 ?k11v rfl ?k11y ?k11r
    case k11y=>(intro w hSw;(try dsimp only at hSw);go_simp;try with_reducible rfl)
    try go_frame
    refine wpAnyL_tk 11 ?k12v rfl ?k12y ?k12r
    case k12y=>(intro w hSw;(try dsimp only at hSw);go_simp;try with_reducible rfl)
    try go_frame
    refine wpAnyL_tk 12 ?k13v rfl ?k13y ?k13r
    case k13y=>(intro w hSw;(try dsimp only at hSw);go_simp;try with_reducible rfl)
    try go_frame
    refine wpAnyL_tk 13 ?k14v rfl ?k14y ?k14r
    case k14y=>(intro w hSw;(try dsimp only at hSw);go_simp;try with_reducible rfl)
    try go_frame
    refine wpAnyL_call (i:=14) rfl (by kernel_rfl) (fun KK hK=>?_)
    go_simp
    obtain⟨t1,ht1,hbA,hnw⟩:∃y,t0.alloc (.cells #[.int .i64 a,.bool false,.bool false] 88)=y/\Below t0.heap.size t0 y/\(∀j u,(hsL ⟨a,false,false⟩)[j]?=some u->y.cell? ((⟨t0.heap.size,0,none⟩:Addr).add j)=some u):=⟨_,rfl,(Below.refl _ _).alloc (Nat.le_refl _) _,cells_newZ _ _ _⟩
    rw[ht1]
    have ME:Hid (MS t1 B S sH sR sP sN sO bv):=MD.out.below hbA
    have FE:Hid (Fm tsM B w t1):=FD.out.below hbA hBd
    have TE:PX x (x+1) #[.int .i64 S.d,.slice sH.a sH.n sH.c,.slice sR.a sR.n sR.c,.slice sP.a sP.n sP.c,.int .i64 (S.st:Int),.slice sN.a sN.n sN.c,.slice sO.a sO.n sO.c,.bool false] #[.int .i64 0,.slice none 0 0,.slice none 0 0,.slice none 0 0,.int .i64 0,.slice none 0 0,.slice none 0 0,.bool false] t1/\FA t1 fb f:=⟨hHeld.1.below hbA,hHeld.2.below hbA⟩
    have NW:Hid _:=hnw
    have hBe:B<=t1.heap.size:=by have:=hbA.size;omega
    clear ht1 hbA hnw MD FD
    refine hK.out _ _ TE (fun hHeld1=>?_)
    clear hK KK
    try go_frame
    have OH:Hid (t1.ownsRow B 88 3 (.slice sH.a sH.n sH.c) S.hs.length (S.hs.flatMap hsL)):=ME.out.R.own 2 _ rfl
    obtain⟨v',w5,hrun,hown,hgrow,_,hat⟩:=run_append_own_at (P:=Tryz.prog) t1 B 23 23 88 iS _ 3 16 Tryz.underlying23 HIS.out.1 HIS.out.2.1 HIS.out.2.2.1 HIS.out.2.2.2 rfl (by decide) (.slice sH.a sH.n sH.c) S.hs.length (S.hs.flatMap hsL) OH.out ⟨t0.heap.size,0,none⟩ 1 1 (hsL ⟨a,false,false⟩) rfl NW.out (by simp[hsL,Value.oneCell']) (by unfold maxLen;omega) (by omega) hBe
    have F5:Hid (Fm tsM B t1 w5):=Fm.of_grow OH.out (Nat.le_refl _) hgrow hBe (by decide)
    have T5:PX x (x+1) #[.int .i64 S.d,.slice sH.a sH.n sH.c,.slice sR.a sR.n sR.c,.slice sP.a sP.n sP.c,.int .i64 (S.st:Int),.slice sN.a sN.n sN.c,.slice sO.a sO.n sO.c,.bool false] #[.int .i64 0,.slice none 0 0,.slice none 0 0,.slice none 0 0,.int .i64 0,.slice none 0 0,.slice none 0 0,.bool false] w5/\FA w5 fb f:=⟨TE.1.fm F5.out,TE.2.fm F5.out (by decide)⟩
    refine wpAnyL_appendZ (.tmp 63) (.tmp 74) (i:=15) rfl (by kernel_rfl) (by kernel_rfl) rfl rfl rfl hrun T5 (fun hHeld5=>?_)
    try go_frame
    refine wpAnyL_tkT 16 ?k15v rfl ?k15y ?k15r
    case k15y=>(intro w hSw;(try dsimp only at hSw);go_simp;try with_reducible rfl)
    try go_frame
    refine wpAnyL_tkT 17 ?k16v rfl ?k16y ?k16r
    case k16y=>(intro w hSw;(try dsimp only at hSw);go_simp;try with_reducible rfl)
    try go_frame
    refine wpAnyL_tk 18 ?k17v rfl ?k17y ?k17r
    case k17y=>(intro w hSw;(try dsimp only at hSw);go_simp;try with_reducible rfl)
    try go_frame
    obtain⟨ao5,c5,hv5⟩:=row_sliceZ hown
    subst hv5
    have M5:Hid (MS w5 B {S with hs:=S.hs++[⟨a,false,false⟩]} ⟨ao5,S.hs.length+1,c5⟩ sR sP sN sO bv):=(⟨by
     have q:=ME.out.R.grow (j:=2) (r:=⟨88,3,.slice sH.a sH.n sH.c,S.hs.length,S.hs.flatMap hsL⟩) (r':=⟨88,3,.slice ao5 (S.hs.length+1) c5,(S.hs++[(⟨a,false,false⟩:HS)]).length,(S.hs++[(⟨a,false,false⟩:HS)]).flatMap hsL⟩) rfl hgrow (by unfold Rw.own;rw[List.flatMap_append,List.length_append];simpa using hown) (hat.elim .inl (fun e=>.inr ⟨_,e,Nat.le_refl _⟩))
     exact q,ME.out.L,⟨ME.out.I.st,ME.out.I.d,by have:=HH.out.2;show(S.hs++_).length<=8;rw[List.length_append];simp;omega,ME.out.I.rg,ME.out.I.gv,ME.out.I.ps,ME.out.I.op,ME.out.I.ol,ME.out.I.od⟩⟩:MS w5 B {S with hs:=S.hs++[⟨a,false,false⟩]} ⟨ao5,S.hs.length+1,c5⟩ sR sP sN sO bv)
    have q1:=r0 w5 T5
    have qf:=hp_frz T5.1.P
    have FF:Hid (Fm tsM B w w5):=FE.out.trans F5.out
    have P5:Hid (PX x (x+1) #[.int .i64 S.d,.slice sH.a sH.n sH.c,.slice sR.a sR.n sR.c,.slice sP.a sP.n sP.c,.int .i64 (S.st:Int),.slice sN.a sN.n sN.c,.slice sO.a sO.n sO.c,.bool false] #[.int .i64 0,.slice none 0 0,.slice none 0 0,.slice none 0 0,.int .i64 0,.slice none 0 0,.slice none 0 0,.bool false] w5):=T5.1
    clear hown hgrow hat hrun OH ME FE NW TE hHeld hHeld1 hHeld5 r0 r1 r2 T5 F5
    refine wpAnyL_store rfl (by kernel_rfl) (by kernel_rfl) (fun KK hK=>?_)
    go_simp
    refine hK.out _ _ ?_
    clear hK KK
    have P6:Hid (PX x (x+1) #[.int .i64 S.d,.slice ao5 (S.hs.length+1) c5,.slice sR.a sR.n sR.c,.slice sP.a sP.n sP.c,.int .i64 (S.st:Int),.slice sN.a sN.n sN.c,.slice sO.a sO.n sO.c,.bool false] #[.int .i64 0,.slice none 0 0,.slice none 0 0,.slice none 0 0,.int .i64 0,.slice none 0 0,.slice none 0 0,.bool false] (w5.setCell ⟨x,1,none⟩ (.slice ao5 (S.hs.length+1) c5))):=P5.out.setP 1 _
    have M6:Hid (MS (w5.setCell ⟨x,1,none⟩ (.slice ao5 (S.hs.length+1) c5)) B {S with hs:=S.hs++[⟨a,false,false⟩]} ⟨ao5,S.hs.length+1,c5⟩ sR sP sN sO bv):=M5.out.setP P5.out 1 _
    have F6:Hid (Fm tsM B w (w5.setCell ⟨x,1,none⟩ (.slice ao5 (S.hs.length+1) c5))):=FF.out.setNew (a:=⟨x,1,none⟩) (by have:=HX.out;show _<=x;omega) hBx _
    generalize w5.setCell ⟨x,1,none⟩ (.slice ao5 (S.hs.length+1) c5)=u6 at P6 M6 F6⊢
    clear P5 M5 FF q1 qf
    obtain⟨y0,y1,y2,y3,y4,y5,y6,y7⟩:=hp8 P6.out.P
    obtain⟨z0,z1,z2,z3,z4,z5,z6,z7⟩:=hp8 P6.out.R
    have f9:=hp_frz P6.out.R
    go_wp2
    refine bodyPost_ret (v:=.agg #[.int .i64 S.d,.slice ao5 (S.hs.length+1) c5,.slice sR.a sR.n sR.c,.slice sP.a sP.n sP.c,.int .i64 (S.st:Int),.slice sN.a sN.n sN.c,.slice sO.a sO.n sO.c,.bool false]) (by simp[results,Tryz.results23,go_sem,z0,z1,z2,z3,z4,z5,z6,z7]) rfl ?_
    unfold MR
    rw[HR.out]
    exact⟨F6.out.put8 (by have:=HX.out;omega) (by omega) _ _ _ _ _ _ _ _,_,_,_,_,_,_,rfl,M6.out.put8 P6.out _ _ _ _ _ _ _ _⟩
   ·obtain⟨q5,q6⟩:=beqF (a:=[114,101,97,100]) HS3.out (by rw[w3];decide)
    obtain⟨q7,q8⟩:=beqT HS3.out w3
    have HR:Hid (heapS S f=some {S with hs:=S.hs++[⟨a,false,true⟩]}):=(by unfold heapS;rw[if_pos ⟨H1.out,H2.out,H3.out⟩,hr1,k2,k3]:heapS S f=some {S with hs:=S.hs++[⟨a,false,true⟩]})
    obtain⟨iS,gS,gS0,gS1,gS2⟩:=info4 info_heap
    have HIS:Hid (_/\_/\_/\_):=⟨gS,gS0,gS1,gS2⟩
    clear gS gS0 gS1 gS2 hr1 k2 k3 w2 w3
    go_upto_region 6 with fail
    have r0:∀w':World,(PX x (x+1) #[.int .i64 S.d,.slice sH.a sH.n sH.c,.slice sR.a sR.n sR.c,.slice sP.a sP.n sP.c,.int .i64 (S.st:Int),.slice sN.a sN.n sN.c,.slice sO.a sO.n sO.c,.bool false] #[.int .i64 0,.slice none 0 0,.slice none 0 0,.slice none 0 0,.int .i64 0,.slice none 0 0,.slice none 0 0,.bool false] w'/\FA w' fb f)->w'.cell? ⟨x,1,none⟩=some (.slice sH.a sH.n sH.c):=fun w' h=>hp_cell h.1.P 1
    have r1:∀w':World,(PX x (x+1) #[.int .i64 S.d,.slice sH.a sH.n sH.c,.slice sR.a sR.n sR.c,.slice sP.a sP.n sP.c,.int .i64 (S.st:Int),.slice sN.a sN.n sN.c,.slice sO.a sO.n sO.c,.bool false] #[.int .i64 0,.slice none 0 0,.slice none 0 0,.slice none 0 0,.int .i64 0,.slice none 0 0,.slice none 0 0,.bool false] w'/\FA w' fb f)->w'.cell? ⟨fb,2,none⟩=some (.string s2):=fun w' h=>(h.2.cell 2 (by omega)).trans (by rw[HS2.out])
    have r2:∀w':World,(PX x (x+1) #[.int .i64 S.d,.slice sH.a sH.n sH.c,.slice sR.a sR.n sR.c,.slice sP.a sP.n sP.c,.int .i64 (S.st:Int),.slice sN.a sN.n sN.c,.slice sO.a sO.n sO.c,.bool false] #[.int .i64 0,.slice none 0 0,.slice none 0 0,.slice none 0 0,.int .i64 0,.slice none 0 0,.slice none 0 0,.bool false] w'/\FA w' fb f)->w'.cell? ⟨fb,3,none⟩=some (.string s3):=fun w' h=>(h.2.cell 3 (by omega)).trans (by rw[HS3.out])
    have TD:PX x (x+1) #[.int .i64 S.d,.slice sH.a sH.n sH.c,.slice sR.a sR.n sR.c,.slice sP.a sP.n sP.c,.int .i64 (S.st:Int),.slice sN.a sN.n sN.c,.slice sO.a sO.n sO.c,.bool false] #[.int .i64 0,.slice none 0 0,.slice none 0 0,.slice none 0 0,.int .i64 0,.slice none 0 0,.slice none 0 0,.bool false] u.drew/\FA u.drew fb f:=⟨P0.out.below (Below.refl _ _).drew,A0.out.below (Below.refl _ _).drew⟩
    have MD:Hid (MS u.drew B S sH sR sP sN sO bv):=M0.out.below (Below.refl _ _).drew
    have FD:Hid (Fm tsM B w u.drew):=F0.out.below (Below.refl _ _).drew hBu
    have hBd:B<=u.drew.heap.size:=hBu
    refine wp_region_L (T:=fun w'=>PX x (x+1) #[.int .i64 S.d,.slice sH.a sH.n sH.c,.slice sR.a sR.n sR.c,.slice sP.a sP.n sP.c,.int .i64 (S.st:Int),.slice sN.a sN.n sN.c,.slice sO.a sO.n sO.c,.bool false] #[.int .i64 0,.slice none 0 0,.slice none 0 0,.slice none 0 0,.int .i64 0,.slice none 0 0,.slice none 0 0,.bool false] w'/\FA w' fb f) (s:=19) (by kernel_rfl) TD (fun hHeld=>?_)
    clear TD M0 F0 P0 A0 g1 g2 g3
    generalize u.drew=t0 at hHeld MD FD hBd⊢
    refine wpAnyL_tk 0 ?k18v rfl ?k18y ?k18r
    case k18y=>(intro w hSw;(try dsimp only at hSw);go_simp;try with_reducible rfl)
    try go_frame
    refine wpAnyL_tk 1 ?k19v rfl ?k19y ?k19r
    case k19y=>(intro w hSw;(try dsimp only at hSw);go_simp;try with_reducible rfl)
    try go_frame
    refine wpAnyL_tk 2 ?k20v rfl ?k20y ?k20r
    case k20y=>(intro w hSw;(try dsimp only at hSw);go_simp;try with_reducible rfl)
    try go_frame
    refine wpAnyL_tk 3 ?k21v rfl ?k21y ?k21r
    case k21y=>(intro w hSw;(try dsimp only at hSw);go_simp;try with_reducible rfl)
    try go_frame
    refine wpAnyL_tk 4 ?k22v rfl ?k22y ?k22r
    case k22y=>(intro w hSw;(try dsimp only at hSw);go_simp;try with_reducible rfl)
    try go_frame
    refine wpAnyL_tk 5 ?k23v rfl ?k23y ?k23r
    case k23y=>(intro w hSw;(try dsimp only at hSw);go_simp;try with_reducible rfl)
    try go_frame
    refine wpAnyL_tk 6 ?k24v rfl ?k24y ?k24r
    case k24y=>(intro w hSw;(try dsimp only at hSw);go_simp;try with_reducible rfl)
    try go_frame
    refine wpAnyL_tk 7 ?k25v rfl ?k25y ?k25r
    case k25y=>(intro w hSw;(try dsimp only at hSw);go_simp;try with_reducible rfl)
    try go_frame
    refine wpAnyL_tk 8 ?k26v rfl ?k26y ?k26r
    case k26y=>(intro w hSw;(try dsimp only at hSw);go_simp;try with_reducible rfl)
    try go_frame
    refine wpAnyL_tk 9 ?k27v rfl ?k27y ?k27r
    case k27y=>(intro w hSw;(try dsimp only at hSw);go_simp;try with_reducible rfl)
    try go_frame
    refine wpAnyL_tk 10 ?k28v rfl ?k28y ?k28r
    case k28y=>(intro w hSw;(try dsimp only at hSw);go_simp;try with_reducible rfl)
    try go_frame
    refine wpAnyL_tk 11 ?k29v rfl ?k29y ?k29r
    case k29y=>(intro w hSw;(try dsimp only at hSw);go_simp;try with_reducible rfl)
    try go_frame
    refine wpAnyL_tk 12 ?k30v rfl ?k30y ?k30r
    case k30y=>(intro w hSw;(try dsimp only at hSw);go_simp;try with_reducible rfl)
    try go_frame
    refine wpAnyL_tk 13 ?k31v rfl ?k31y ?k31r
    case k31y=>(intro w hSw;(try dsimp only at hSw);go_simp;try with_reducible rfl)
    try go_frame
    refine wpAnyL_call (i:=14) rfl (by kernel_rfl) (fun KK hK=>?_)
    go_simp
    obtain⟨t1,ht1,hbA,hnw⟩:∃y,t0.alloc (.cells #[.int .i64 a,.bool false,.bool true] 88)=y/\Below t0.heap.size t0 y/\(∀j u,(hsL ⟨a,false,true⟩)[j]?=some u->y.cell? ((⟨t0.heap.size,0,none⟩:Addr).add j)=some u):=⟨_,rfl,(Below.refl _ _).alloc (Nat.le_refl _) _,cells_newZ _ _ _⟩
    rw[ht1]
    have ME:Hid (MS t1 B S sH sR sP sN sO bv):=MD.out.below hbA
    have FE:Hid (Fm tsM B w t1):=FD.out.below hbA hBd
    have TE:PX x (x+1) #[.int .i64 S.d,.slice sH.a sH.n sH.c,.slice sR.a sR.n sR.c,.slice sP.a sP.n sP.c,.int .i64 (S.st:Int),.slice sN.a sN.n sN.c,.slice sO.a sO.n sO.c,.bool false] #[.int .i64 0,.slice none 0 0,.slice none 0 0,.slice none 0 0,.int .i64 0,.slice none 0 0,.slice none 0 0,.bool false] t1/\FA t1 fb f:=⟨hHeld.1.below hbA,hHeld.2.below hbA⟩
    have NW:Hid _:=hnw
    have hBe:B<=t1.heap.size:=by have:=hbA.size;omega
    clear ht1 hbA hnw MD FD
    refine hK.out _ _ TE (fun hHeld1=>?_)
    clear hK KK
    try go_frame
    have OH:Hid (t1.ownsRow B 88 3 (.slice sH.a sH.n sH.c) S.hs.length (S.hs.flatMap hsL)):=ME.out.R.own 2 _ rfl
    obtain⟨v',w5,hrun,hown,hgrow,_,hat⟩:=run_append_own_at (P:=Tryz.prog) t1 B 23 23 88 iS _ 3 16 Tryz.underlying23 HIS.out.1 HIS.out.2.1 HIS.out.2.2.1 HIS.out.2.2.2 rfl (by decide) (.slice sH.a sH.n sH.c) S.hs.length (S.hs.flatMap hsL) OH.out ⟨t0.heap.size,0,none⟩ 1 1 (hsL ⟨a,false,true⟩) rfl NW.out (by simp[hsL,Value.oneCell']) (by unfold maxLen;omega) (by omega) hBe
    have F5:Hid (Fm tsM B t1 w5):=Fm.of_grow OH.out (Nat.le_refl _) hgrow hBe (by decide)
    have T5:PX x (x+1) #[.int .i64 S.d,.slice sH.a sH.n sH.c,.slice sR.a sR.n sR.c,.slice sP.a sP.n sP.c,.int .i64 (S.st:Int),.slice sN.a sN.n sN.c,.slice sO.a sO.n sO.c,.bool false] #[.int .i64 0,.slice none 0 0,.slice none 0 0,.slice none 0 0,.int .i64 0,.slice none 0 0,.slice none 0 0,.bool false] w5/\FA w5 fb f:=⟨TE.1.fm F5.out,TE.2.fm F5.out (by decide)⟩
    refine wpAnyL_appendZ (.tmp 63) (.tmp 74) (i:=15) rfl (by kernel_rfl) (by kernel_rfl) rfl rfl rfl hrun T5 (fun hHeld5=>?_)
    try go_frame
    refine wpAnyL_tkT 16 ?k32v rfl ?k32y ?k32r
    case k32y=>(intro w hSw;(try dsimp only at hSw);go_simp;try with_reducible rfl)
    try go_frame
    refine wpAnyL_tkT 17 ?k33v rfl ?k33y ?k33r
    case k33y=>(intro w hSw;(try dsimp only at hSw);go_simp;try with_reducible rfl)
    try go_frame
    refine wpAnyL_tk 18 ?k34v rfl ?k34y ?k34r
    case k34y=>(intro w hSw;(try dsimp only at hSw);go_simp;try with_reducible rfl)
    try go_frame
    obtain⟨ao5,c5,hv5⟩:=row_sliceZ hown
    subst hv5
    have M5:Hid (MS w5 B {S with hs:=S.hs++[⟨a,false,true⟩]} ⟨ao5,S.hs.length+1,c5⟩ sR sP sN sO bv):=(⟨by
     have q:=ME.out.R.grow (j:=2) (r:=⟨88,3,.slice sH.a sH.n sH.c,S.hs.length,S.hs.flatMap hsL⟩) (r':=⟨88,3,.slice ao5 (S.hs.length+1) c5,(S.hs++[(⟨a,false,true⟩:HS)]).length,(S.hs++[(⟨a,false,true⟩:HS)]).flatMap hsL⟩) rfl hgrow (by unfold Rw.own;rw[List.flatMap_append,List.length_append];simpa using hown) (hat.elim .inl (fun e=>.inr ⟨_,e,Nat.le_refl _⟩))
     exact q,ME.out.L,⟨ME.out.I.st,ME.out.I.d,by have:=HH.out.2;show(S.hs++_).length<=8;rw[List.length_append];simp;omega,ME.out.I.rg,ME.out.I.gv,ME.out.I.ps,ME.out.I.op,ME.out.I.ol,ME.out.I.od⟩⟩:MS w5 B {S with hs:=S.hs++[⟨a,false,true⟩]} ⟨ao5,S.hs.length+1,c5⟩ sR sP sN sO bv)
    have q1:=r0 w5 T5
    have qf:=hp_frz T5.1.P
    have FF:Hid (Fm tsM B w w5):=FE.out.trans F5.out
    have P5:Hid (PX x (x+1) #[.int .i64 S.d,.slice sH.a sH.n sH.c,.slice sR.a sR.n sR.c,.slice sP.a sP.n sP.c,.int .i64 (S.st:Int),.slice sN.a sN.n sN.c,.slice sO.a sO.n sO.c,.bool false] #[.int .i64 0,.slice none 0 0,.slice none 0 0,.slice none 0 0,.int .i64 0,.slice none 0 0,.slice none 0 0,.bool false] w5):=T5.1
    clear hown hgrow hat hrun OH ME FE NW TE hHeld hHeld1 hHeld5 r0 r1 r2 T5 F5
    refine wpAnyL_store rfl (by kernel_rfl) (by kernel_rfl) (fun KK hK=>?_)
    go_simp
    refine hK.out _ _ ?_
    clear hK KK
    have P6:Hid (PX x (x+1) #[.int .i64 S.d,.slice ao5 (S.hs.length+1) c5,.slice sR.a sR.n sR.c,.slice sP.a sP.n sP.c,.int .i64 (S.st:Int),.slice sN.a sN.n sN.c,.slice sO.a sO.n sO.c,.bool false] #[.int .i64 0,.slice none 0 0,.slice none 0 0,.slice none 0 0,.int .i64 0,.slice none 0 0,.slice none 0 0,.bool false] (w5.setCell ⟨x,1,none⟩ (.slice ao5 (S.hs.length+1) c5))):=P5.out.setP 1 _
    have M6:Hid (MS (w5.setCell ⟨x,1,none⟩ (.slice ao5 (S.hs.length+1) c5)) B {S with hs:=S.hs++[⟨a,false,true⟩]} ⟨ao5,S.hs.length+1,c5⟩ sR sP sN sO bv):=M5.out.setP P5.out 1 _
    have F6:Hid (Fm tsM B w (w5.setCell ⟨x,1,none⟩ (.slice ao5 (S.hs.length+1) c5))):=FF.out.setNew (a:=⟨x,1,none⟩) (by have:=HX.out;show _<=x;omega) hBx _
    generalize w5.setCell ⟨x,1,none⟩ (.slice ao5 (S.hs.length+1) c5)=u6 at P6 M6 F6⊢
    clear P5 M5 FF q1 qf
    obtain⟨y0,y1,y2,y3,y4,y5,y6,y7⟩:=hp8 P6.out.P
    obtain⟨z0,z1,z2,z3,z4,z5,z6,z7⟩:=hp8 P6.out.R
    have f9:=hp_frz P6.out.R
    go_wp2
    refine bodyPost_ret (v:=.agg #[.int .i64 S.d,.slice ao5 (S.hs.length+1) c5,.slice sR.a sR.n sR.c,.slice sP.a sP.n sP.c,.int .i64 (S.st:Int),.slice sN.a sN.n sN.c,.slice sO.a sO.n sO.c,.bool false]) (by simp[results,Tryz.results23,go_sem,z0,z1,z2,z3,z4,z5,z6,z7]) rfl ?_
    unfold MR
    rw[HR.out]
    exact⟨F6.out.put8 (by have:=HX.out;omega) (by omega) _ _ _ _ _ _ _ _,_,_,_,_,_,_,rfl,M6.out.put8 P6.out _ _ _ _ _ _ _ _⟩
   ·obtain⟨q5,q6⟩:=beqF HS3.out w3
    obtain⟨q7,q8⟩:=beqF HS3.out w3'
    have HR:Hid (heapS S f=none):=(by unfold heapS;rw[if_pos ⟨H1.out,H2.out,H3.out⟩,hr1,k2,k3]:heapS S f=none)
    clear hr1 k2 k3 w2 w3 w3'
    go_wp2_with fail
    refine(l6Bad_any S.d (S.st:Int) sH sR sP sN sO false u).mono ?_
    rintro e u9⟨rfl,hb9⟩
    have P9:=P0.out.below hb9
    have F9:Hid (Fm tsM B w u9):=F0.out.below hb9 hBu
    obtain⟨z0,z1,z2,z3,z4,z5,z6,z7⟩:=hp8 P9.R
    have f9:=hp_frz P9.R
    clear hb9
    go_wp2
    refine bodyPost_ret (v:=.agg #[.int .i64 S.d,.slice sH.a sH.n sH.c,.slice sR.a sR.n sR.c,.slice sP.a sP.n sP.c,.int .i64 (S.st:Int),.slice sN.a sN.n sN.c,.slice sO.a sO.n sO.c,.bool true]) (by simp[results,Tryz.results23,go_sem,z0,z1,z2,z3,z4,z5,z6,z7]) rfl ?_
    unfold MR
    rw[HR.out]
    exact⟨F9.out.put8 (by have:=HX.out;omega) (by omega) _ _ _ _ _ _ _ _,_,_,_,_,_,_,_,rfl⟩
  ·obtain⟨q1,q2⟩:=beqF (a:=[112,117,98,108,105,99]) HS2.out (by rw[w2];decide)
   obtain⟨q3,q4⟩:=beqT HS2.out w2
   rcases wrtW_cases (fd f 3)with⟨w3,k3⟩|⟨w3,k3⟩|⟨w3,w3',k3⟩
   ·obtain⟨q5,q6⟩:=beqT HS3.out w3
    obtain⟨q7,q8⟩:=beqF (a:=[119,114,105,116,101]) HS3.out (by rw[w3];decide)
    have HR:Hid (heapS S f=some {S with hs:=S.hs++[⟨a,true,false⟩]}):=(by unfold heapS;rw[if_pos ⟨H1.out,H2.out,H3.out⟩,hr1,k2,k3]:heapS S f=some {S with hs:=S.hs++[⟨a,true,false⟩]})
    obtain⟨iS,gS,gS0,gS1,gS2⟩:=info4 info_heap
    have HIS:Hid (_/\_/\_/\_):=⟨gS,gS0,gS1,gS2⟩
    clear gS gS0 gS1 gS2 hr1 k2 k3 w2 w3
    go_upto_region 6 with fail
    have r0:∀w':World,(PX x (x+1) #[.int .i64 S.d,.slice sH.a sH.n sH.c,.slice sR.a sR.n sR.c,.slice sP.a sP.n sP.c,.int .i64 (S.st:Int),.slice sN.a sN.n sN.c,.slice sO.a sO.n sO.c,.bool false] #[.int .i64 0,.slice none 0 0,.slice none 0 0,.slice none 0 0,.int .i64 0,.slice none 0 0,.slice none 0 0,.bool false] w'/\FA w' fb f)->w'.cell? ⟨x,1,none⟩=some (.slice sH.a sH.n sH.c):=fun w' h=>hp_cell h.1.P 1
    have r1:∀w':World,(PX x (x+1) #[.int .i64 S.d,.slice sH.a sH.n sH.c,.slice sR.a sR.n sR.c,.slice sP.a sP.n sP.c,.int .i64 (S.st:Int),.slice sN.a sN.n sN.c,.slice sO.a sO.n sO.c,.bool false] #[.int .i64 0,.slice none 0 0,.slice none 0 0,.slice none 0 0,.int .i64 0,.slice none 0 0,.slice none 0 0,.bool false] w'/\FA w' fb f)->w'.cell? ⟨fb,2,none⟩=some (.string s2):=fun w' h=>(h.2.cell 2 (by omega)).trans (by rw[HS2.out])
    have r2:∀w':World,(PX x (x+1) #[.int .i64 S.d,.slice sH.a sH.n sH.c,.slice sR.a sR.n sR.c,.slice sP.a sP.n sP.c,.int .i64 (S.st:Int),.slice sN.a sN.n sN.c,.slice sO.a sO.n sO.c,.bool false] #[.int .i64 0,.slice none 0 0,.slice none 0 0,.slice none 0 0,.int .i64 0,.slice none 0 0,.slice none 0 0,.bool false] w'/\FA w' fb f)->w'.cell? ⟨fb,3,none⟩=some (.string s3):=fun w' h=>(h.2.cell 3 (by omega)).trans (by rw[HS3.out])
    have TD:PX x (x+1) #[.int .i64 S.d,.slice sH.a sH.n sH.c,.slice sR.a sR.n sR.c,.slice sP.a sP.n sP.c,.int .i64 (S.st:Int),.slice sN.a sN.n sN.c,.slice sO.a sO.n sO.c,.bool false] #[.int .i64 0,.slice none 0 0,.slice none 0 0,.slice none 0 0,.int .i64 0,.slice none 0 0,.slice none 0 0,.bool false] u.drew/\FA u.drew fb f:=⟨P0.out.below (Below.refl _ _).drew,A0.out.below (Below.refl _ _).drew⟩
    have MD:Hid (MS u.drew B S sH sR sP sN sO bv):=M0.out.below (Below.refl _ _).drew
    have FD:Hid (Fm tsM B w u.drew):=F0.out.below (Below.refl _ _).drew hBu
    have hBd:B<=u.drew.heap.size:=hBu
    refine wp_region_L (T:=fun w'=>PX x (x+1) #[.int .i64 S.d,.slice sH.a sH.n sH.c,.slice sR.a sR.n sR.c,.slice sP.a sP.n sP.c,.int .i64 (S.st:Int),.slice sN.a sN.n sN.c,.slice sO.a sO.n sO.c,.bool false] #[.int .i64 0,.slice none 0 0,.slice none 0 0,.slice none 0 0,.int .i64 0,.slice none 0 0,.slice none 0 0,.bool false] w'/\FA w' fb f) (s:=19) (by kernel_rfl) TD (fun hHeld=>?_)
    clear TD M0 F0 P0 A0 g1 g2 g3
    generalize u.drew=t0 at hHeld MD FD hBd⊢
    refine wpAnyL_tk 0 ?k35v rfl ?k35y ?k35r
    case k35y=>(intro w hSw;(try dsimp only at hSw);go_simp;try with_reducible rfl)
    try go_frame
    refine wpAnyL_tk 1 ?k36v rfl ?k36y ?k36r
    case k36y=>(intro w hSw;(try dsimp only at hSw);go_simp;try with_reducible rfl)
    try go_frame
    refine wpAnyL_tk 2 ?k37v rfl ?k37y ?k37r
    case k37y=>(intro w hSw;(try dsimp only at hSw);go_simp;try with_reducible rfl)
    try go_frame
    refine wpAnyL_tk 3 ?k38v rfl ?k38y ?k38r
    case k38y=>(intro w hSw;(try dsimp only at hSw);go_simp;try with_reducible rfl)
    try go_frame
    refine wpAnyL_tk 4 ?k39v rfl ?k39y ?k39r
    case k39y=>(intro w hSw;(try dsimp only at hSw);go_simp;try with_reducible rfl)
    try go_frame
    refine wpAnyL_tk 5 ?k40v rfl ?k40y ?k40r
    case k40y=>(intro w hSw;(try dsimp only at hSw);go_simp;try with_reducible rfl)
    try go_frame
    refine wpAnyL_tk 6 ?k41v rfl ?k41y ?k41r
    case k41y=>(intro w hSw;(try dsimp only at hSw);go_simp;try with_reducible rfl)
    try go_frame
    refine wpAnyL_tk 7 ?k42v rfl ?k42y ?k42r
    case k42y=>(intro w hSw;(try dsimp only at hSw);go_simp;try with_reducible rfl)
    try go_frame
    refine wpAnyL_tk 8 ?k43v rfl ?k43y ?k43r
    case k43y=>(intro w hSw;(try dsimp only at hSw);go_simp;try with_reducible rfl)
    try go_frame
    refine wpAnyL_tk 9 ?k44v rfl ?k44y ?k44r
    case k44y=>(intro w hSw;(try dsimp only at hSw);go_simp;try with_reducible rfl)
    try go_frame
    refine wpAnyL_tk 10 ?k45v rfl ?k45y ?k45r
    case k45y=>(intro w hSw;(try dsimp only at hSw);go_simp;try with_reducible rfl)
    try go_frame
    refine wpAnyL_tk 11 ?k46v rfl ?k46y ?k46r
    case k46y=>(intro w hSw;(try dsimp only at hSw);go_simp;try with_reducible rfl)
    try go_frame
    refine wpAnyL_tk 12 ?k47v rfl ?k47y ?k47r
    case k47y=>(intro w hSw;(try dsimp only at hSw);go_simp;try with_reducible rfl)
    try go_frame
    refine wpAnyL_tk 13 ?k48v rfl ?k48y ?k48r
    case k48y=>(intro w hSw;(try dsimp only at hSw);go_simp;try with_reducible rfl)
    try go_frame
    refine wpAnyL_call (i:=14) rfl (by kernel_rfl) (fun KK hK=>?_)
    go_simp
    obtain⟨t1,ht1,hbA,hnw⟩:∃y,t0.alloc (.cells #[.int .i64 a,.bool true,.bool false] 88)=y/\Below t0.heap.size t0 y/\(∀j u,(hsL ⟨a,true,false⟩)[j]?=some u->y.cell? ((⟨t0.heap.size,0,none⟩:Addr).add j)=some u):=⟨_,rfl,(Below.refl _ _).alloc (Nat.le_refl _) _,cells_newZ _ _ _⟩
    rw[ht1]
    have ME:Hid (MS t1 B S sH sR sP sN sO bv):=MD.out.below hbA
    have FE:Hid (Fm tsM B w t1):=FD.out.below hbA hBd
    have TE:PX x (x+1) #[.int .i64 S.d,.slice sH.a sH.n sH.c,.slice sR.a sR.n sR.c,.slice sP.a sP.n sP.c,.int .i64 (S.st:Int),.slice sN.a sN.n sN.c,.slice sO.a sO.n sO.c,.bool false] #[.int .i64 0,.slice none 0 0,.slice none 0 0,.slice none 0 0,.int .i64 0,.slice none 0 0,.slice none 0 0,.bool false] t1/\FA t1 fb f:=⟨hHeld.1.below hbA,hHeld.2.below hbA⟩
    have NW:Hid _:=hnw
    have hBe:B<=t1.heap.size:=by have:=hbA.size;omega
    clear ht1 hbA hnw MD FD
    refine hK.out _ _ TE (fun hHeld1=>?_)
    clear hK KK
    try go_frame
    have OH:Hid (t1.ownsRow B 88 3 (.slice sH.a sH.n sH.c) S.hs.length (S.hs.flatMap hsL)):=ME.out.R.own 2 _ rfl
    obtain⟨v',w5,hrun,hown,hgrow,_,hat⟩:=run_append_own_at (P:=Tryz.prog) t1 B 23 23 88 iS _ 3 16 Tryz.underlying23 HIS.out.1 HIS.out.2.1 HIS.out.2.2.1 HIS.out.2.2.2 rfl (by decide) (.slice sH.a sH.n sH.c) S.hs.length (S.hs.flatMap hsL) OH.out ⟨t0.heap.size,0,none⟩ 1 1 (hsL ⟨a,true,false⟩) rfl NW.out (by simp[hsL,Value.oneCell']) (by unfold maxLen;omega) (by omega) hBe
    have F5:Hid (Fm tsM B t1 w5):=Fm.of_grow OH.out (Nat.le_refl _) hgrow hBe (by decide)
    have T5:PX x (x+1) #[.int .i64 S.d,.slice sH.a sH.n sH.c,.slice sR.a sR.n sR.c,.slice sP.a sP.n sP.c,.int .i64 (S.st:Int),.slice sN.a sN.n sN.c,.slice sO.a sO.n sO.c,.bool false] #[.int .i64 0,.slice none 0 0,.slice none 0 0,.slice none 0 0,.int .i64 0,.slice none 0 0,.slice none 0 0,.bool false] w5/\FA w5 fb f:=⟨TE.1.fm F5.out,TE.2.fm F5.out (by decide)⟩
    refine wpAnyL_appendZ (.tmp 63) (.tmp 74) (i:=15) rfl (by kernel_rfl) (by kernel_rfl) rfl rfl rfl hrun T5 (fun hHeld5=>?_)
    try go_frame
    refine wpAnyL_tkT 16 ?k49v rfl ?k49y ?k49r
    case k49y=>(intro w hSw;(try dsimp only at hSw);go_simp;try with_reducible rfl)
    try go_frame
    refine wpAnyL_tkT 17 ?k50v rfl ?k50y ?k50r
    case k50y=>(intro w hSw;(try dsimp only at hSw);go_simp;try with_reducible rfl)
    try go_frame
    refine wpAnyL_tk 18 ?k51v rfl ?k51y ?k51r
    case k51y=>(intro w hSw;(try dsimp only at hSw);go_simp;try with_reducible rfl)
    try go_frame
    obtain⟨ao5,c5,hv5⟩:=row_sliceZ hown
    subst hv5
    have M5:Hid (MS w5 B {S with hs:=S.hs++[⟨a,true,false⟩]} ⟨ao5,S.hs.length+1,c5⟩ sR sP sN sO bv):=(⟨by
     have q:=ME.out.R.grow (j:=2) (r:=⟨88,3,.slice sH.a sH.n sH.c,S.hs.length,S.hs.flatMap hsL⟩) (r':=⟨88,3,.slice ao5 (S.hs.length+1) c5,(S.hs++[(⟨a,true,false⟩:HS)]).length,(S.hs++[(⟨a,true,false⟩:HS)]).flatMap hsL⟩) rfl hgrow (by unfold Rw.own;rw[List.flatMap_append,List.length_append];simpa using hown) (hat.elim .inl (fun e=>.inr ⟨_,e,Nat.le_refl _⟩))
     exact q,ME.out.L,⟨ME.out.I.st,ME.out.I.d,by have:=HH.out.2;show(S.hs++_).length<=8;rw[List.length_append];simp;omega,ME.out.I.rg,ME.out.I.gv,ME.out.I.ps,ME.out.I.op,ME.out.I.ol,ME.out.I.od⟩⟩:MS w5 B {S with hs:=S.hs++[⟨a,true,false⟩]} ⟨ao5,S.hs.length+1,c5⟩ sR sP sN sO bv)
    have q1:=r0 w5 T5
    have qf:=hp_frz T5.1.P
    have FF:Hid (Fm tsM B w w5):=FE.out.trans F5.out
    have P5:Hid (PX x (x+1) #[.int .i64 S.d,.slice sH.a sH.n sH.c,.slice sR.a sR.n sR.c,.slice sP.a sP.n sP.c,.int .i64 (S.st:Int),.slice sN.a sN.n sN.c,.slice sO.a sO.n sO.c,.bool false] #[.int .i64 0,.slice none 0 0,.slice none 0 0,.slice none 0 0,.int .i64 0,.slice none 0 0,.slice none 0 0,.bool false] w5):=T5.1
    clear hown hgrow hat hrun OH ME FE NW TE hHeld hHeld1 hHeld5 r0 r1 r2 T5 F5
    refine wpAnyL_store rfl (by kernel_rfl) (by kernel_rfl) (fun KK hK=>?_)
    go_simp
    refine hK.out _ _ ?_
    clear hK KK
    have P6:Hid (PX x (x+1) #[.int .i64 S.d,.slice ao5 (S.hs.length+1) c5,.slice sR.a sR.n sR.c,.slice sP.a sP.n sP.c,.int .i64 (S.st:Int),.slice sN.a sN.n sN.c,.slice sO.a sO.n sO.c,.bool false] #[.int .i64 0,.slice none 0 0,.slice none 0 0,.slice none 0 0,.int .i64 0,.slice none 0 0,.slice none 0 0,.bool false] (w5.setCell ⟨x,1,none⟩ (.slice ao5 (S.hs.length+1) c5))):=P5.out.setP 1 _
    have M6:Hid (MS (w5.setCell ⟨x,1,none⟩ (.slice ao5 (S.hs.length+1) c5)) B {S with hs:=S.hs++[⟨a,true,false⟩]} ⟨ao5,S.hs.length+1,c5⟩ sR sP sN sO bv):=M5.out.setP P5.out 1 _
    have F6:Hid (Fm tsM B w (w5.setCell ⟨x,1,none⟩ (.slice ao5 (S.hs.length+1) c5))):=FF.out.setNew (a:=⟨x,1,none⟩) (by have:=HX.out;show _<=x;omega) hBx _
    generalize w5.setCell ⟨x,1,none⟩ (.slice ao5 (S.hs.length+1) c5)=u6 at P6 M6 F6⊢
    clear P5 M5 FF q1 qf
    obtain⟨y0,y1,y2,y3,y4,y5,y6,y7⟩:=hp8 P6.out.P
    obtain⟨z0,z1,z2,z3,z4,z5,z6,z7⟩:=hp8 P6.out.R
    have f9:=hp_frz P6.out.R
    go_wp2
    refine bodyPost_ret (v:=.agg #[.int .i64 S.d,.slice ao5 (S.hs.length+1) c5,.slice sR.a sR.n sR.c,.slice sP.a sP.n sP.c,.int .i64 (S.st:Int),.slice sN.a sN.n sN.c,.slice sO.a sO.n sO.c,.bool false]) (by simp[results,Tryz.results23,go_sem,z0,z1,z2,z3,z4,z5,z6,z7]) rfl ?_
    unfold MR
    rw[HR.out]
    exact⟨F6.out.put8 (by have:=HX.out;omega) (by omega) _ _ _ _ _ _ _ _,_,_,_,_,_,_,rfl,M6.out.put8 P6.out _ _ _ _ _ _ _ _⟩
   ·obtain⟨q5,q6⟩:=beqF (a:=[114,101,97,100]) HS3.out (by rw[w3];decide)
    obtain⟨q7,q8⟩:=beqT HS3.out w3
    have HR:Hid (heapS S f=some {S with hs:=S.hs++[⟨a,true,true⟩]}):=(by unfold heapS;rw[if_pos ⟨H1.out,H2.out,H3.out⟩,hr1,k2,k3]:heapS S f=some {S with hs:=S.hs++[⟨a,true,true⟩]})
    obtain⟨iS,gS,gS0,gS1,gS2⟩:=info4 info_heap
    have HIS:Hid (_/\_/\_/\_):=⟨gS,gS0,gS1,gS2⟩
    clear gS gS0 gS1 gS2 hr1 k2 k3 w2 w3
    go_upto_region 6 with fail
    have r0:∀w':World,(PX x (x+1) #[.int .i64 S.d,.slice sH.a sH.n sH.c,.slice sR.a sR.n sR.c,.slice sP.a sP.n sP.c,.int .i64 (S.st:Int),.slice sN.a sN.n sN.c,.slice sO.a sO.n sO.c,.bool false] #[.int .i64 0,.slice none 0 0,.slice none 0 0,.slice none 0 0,.int .i64 0,.slice none 0 0,.slice none 0 0,.bool false] w'/\FA w' fb f)->w'.cell? ⟨x,1,none⟩=some (.slice sH.a sH.n sH.c):=fun w' h=>hp_cell h.1.P 1
    have r1:∀w':World,(PX x (x+1) #[.int .i64 S.d,.slice sH.a sH.n sH.c,.slice sR.a sR.n sR.c,.slice sP.a sP.n sP.c,.int .i64 (S.st:Int),.slice sN.a sN.n sN.c,.slice sO.a sO.n sO.c,.bool false] #[.int .i64 0,.slice none 0 0,.slice none 0 0,.slice none 0 0,.int .i64 0,.slice none 0 0,.slice none 0 0,.bool false] w'/\FA w' fb f)->w'.cell? ⟨fb,2,none⟩=some (.string s2):=fun w' h=>(h.2.cell 2 (by omega)).trans (by rw[HS2.out])
    have r2:∀w':World,(PX x (x+1) #[.int .i64 S.d,.slice sH.a sH.n sH.c,.slice sR.a sR.n sR.c,.slice sP.a sP.n sP.c,.int .i64 (S.st:Int),.slice sN.a sN.n sN.c,.slice sO.a sO.n sO.c,.bool false] #[.int .i64 0,.slice none 0 0,.slice none 0 0,.slice none 0 0,.int .i64 0,.slice none 0 0,.slice none 0 0,.bool false] w'/\FA w' fb f)->w'.cell? ⟨fb,3,none⟩=some (.string s3):=fun w' h=>(h.2.cell 3 (by omega)).trans (by rw[HS3.out])
    have TD:PX x (x+1) #[.int .i64 S.d,.slice sH.a sH.n sH.c,.slice sR.a sR.n sR.c,.slice sP.a sP.n sP.c,.int .i64 (S.st:Int),.slice sN.a sN.n sN.c,.slice sO.a sO.n sO.c,.bool false] #[.int .i64 0,.slice none 0 0,.slice none 0 0,.slice none 0 0,.int .i64 0,.slice none 0 0,.slice none 0 0,.bool false] u.drew/\FA u.drew fb f:=⟨P0.out.below (Below.refl _ _).drew,A0.out.below (Below.refl _ _).drew⟩
    have MD:Hid (MS u.drew B S sH sR sP sN sO bv):=M0.out.below (Below.refl _ _).drew
    have FD:Hid (Fm tsM B w u.drew):=F0.out.below (Below.refl _ _).drew hBu
    have hBd:B<=u.drew.heap.size:=hBu
    refine wp_region_L (T:=fun w'=>PX x (x+1) #[.int .i64 S.d,.slice sH.a sH.n sH.c,.slice sR.a sR.n sR.c,.slice sP.a sP.n sP.c,.int .i64 (S.st:Int),.slice sN.a sN.n sN.c,.slice sO.a sO.n sO.c,.bool false] #[.int .i64 0,.slice none 0 0,.slice none 0 0,.slice none 0 0,.int .i64 0,.slice none 0 0,.slice none 0 0,.bool false] w'/\FA w' fb f) (s:=19) (by kernel_rfl) TD (fun hHeld=>?_)
    clear TD M0 F0 P0 A0 g1 g2 g3
    generalize u.drew=t0 at hHeld MD FD hBd⊢
    refine wpAnyL_tk 0 ?k52v rfl ?k52y ?k52r
    case k52y=>(intro w hSw;(try dsimp only at hSw);go_simp;try with_reducible rfl)
    try go_frame
    refine wpAnyL_tk 1 ?k53v rfl ?k53y ?k53r
    case k53y=>(intro w hSw;(try dsimp only at hSw);go_simp;try with_reducible rfl)
    try go_frame
    refine wpAnyL_tk 2 ?k54v rfl ?k54y ?k54r
    case k54y=>(intro w hSw;(try dsimp only at hSw);go_simp;try with_reducible rfl)
    try go_frame
    refine wpAnyL_tk 3 ?k55v rfl ?k55y ?k55r
    case k55y=>(intro w hSw;(try dsimp only at hSw);go_simp;try with_reducible rfl)
    try go_frame
    refine wpAnyL_tk 4 ?k56v rfl ?k56y ?k56r
    case k56y=>(intro w hSw;(try dsimp only at hSw);go_simp;try with_reducible rfl)
    try go_frame
    refine wpAnyL_tk 5 ?k57v rfl ?k57y ?k57r
    case k57y=>(intro w hSw;(try dsimp only at hSw);go_simp;try with_reducible rfl)
    try go_frame
    refine wpAnyL_tk 6 ?k58v rfl ?k58y ?k58r
    case k58y=>(intro w hSw;(try dsimp only at hSw);go_simp;try with_reducible rfl)
    try go_frame
    refine wpAnyL_tk 7 ?k59v rfl ?k59y ?k59r
    case k59y=>(intro w hSw;(try dsimp only at hSw);go_simp;try with_reducible rfl)
    try go_frame
    refine wpAnyL_tk 8 ?k60v rfl ?k60y ?k60r
    case k60y=>(intro w hSw;(try dsimp only at hSw);go_simp;try with_reducible rfl)
    try go_frame
    refine wpAnyL_tk 9 ?k61v rfl ?k61y ?k61r
    case k61y=>(intro w hSw;(try dsimp only at hSw);go_simp;try with_reducible rfl)
    try go_frame
    refine wpAnyL_tk 10 ?k62v rfl ?k62y ?k62r
    case k62y=>(intro w hSw;(try dsimp only at hSw);go_simp;try with_reducible rfl)
    try go_frame
    refine wpAnyL_tk 11 ?k63v rfl ?k63y ?k63r
    case k63y=>(intro w hSw;(try dsimp only at hSw);go_simp;try with_reducible rfl)
    try go_frame
    refine wpAnyL_tk 12 ?k64v rfl ?k64y ?k64r
    case k64y=>(intro w hSw;(try dsimp only at hSw);go_simp;try with_reducible rfl)
    try go_frame
    refine wpAnyL_tk 13 ?k65v rfl ?k65y ?k65r
    case k65y=>(intro w hSw;(try dsimp only at hSw);go_simp;try with_reducible rfl)
    try go_frame
    refine wpAnyL_call (i:=14) rfl (by kernel_rfl) (fun KK hK=>?_)
    go_simp
    obtain⟨t1,ht1,hbA,hnw⟩:∃y,t0.alloc (.cells #[.int .i64 a,.bool true,.bool true] 88)=y/\Below t0.heap.size t0 y/\(∀j u,(hsL ⟨a,true,true⟩)[j]?=some u->y.cell? ((⟨t0.heap.size,0,none⟩:Addr).add j)=some u):=⟨_,rfl,(Below.refl _ _).alloc (Nat.le_refl _) _,cells_newZ _ _ _⟩
    rw[ht1]
    have ME:Hid (MS t1 B S sH sR sP sN sO bv):=MD.out.below hbA
    have FE:Hid (Fm tsM B w t1):=FD.out.below hbA hBd
    have TE:PX x (x+1) #[.int .i64 S.d,.slice sH.a sH.n sH.c,.slice sR.a sR.n sR.c,.slice sP.a sP.n sP.c,.int .i64 (S.st:Int),.slice sN.a sN.n sN.c,.slice sO.a sO.n sO.c,.bool false] #[.int .i64 0,.slice none 0 0,.slice none 0 0,.slice none 0 0,.int .i64 0,.slice none 0 0,.slice none 0 0,.bool false] t1/\FA t1 fb f:=⟨hHeld.1.below hbA,hHeld.2.below hbA⟩
    have NW:Hid _:=hnw
    have hBe:B<=t1.heap.size:=by have:=hbA.size;omega
    clear ht1 hbA hnw MD FD
    refine hK.out _ _ TE (fun hHeld1=>?_)
    clear hK KK
    try go_frame
    have OH:Hid (t1.ownsRow B 88 3 (.slice sH.a sH.n sH.c) S.hs.length (S.hs.flatMap hsL)):=ME.out.R.own 2 _ rfl
    obtain⟨v',w5,hrun,hown,hgrow,_,hat⟩:=run_append_own_at (P:=Tryz.prog) t1 B 23 23 88 iS _ 3 16 Tryz.underlying23 HIS.out.1 HIS.out.2.1 HIS.out.2.2.1 HIS.out.2.2.2 rfl (by decide) (.slice sH.a sH.n sH.c) S.hs.length (S.hs.flatMap hsL) OH.out ⟨t0.heap.size,0,none⟩ 1 1 (hsL ⟨a,true,true⟩) rfl NW.out (by simp[hsL,Value.oneCell']) (by unfold maxLen;omega) (by omega) hBe
    have F5:Hid (Fm tsM B t1 w5):=Fm.of_grow OH.out (Nat.le_refl _) hgrow hBe (by decide)
    have T5:PX x (x+1) #[.int .i64 S.d,.slice sH.a sH.n sH.c,.slice sR.a sR.n sR.c,.slice sP.a sP.n sP.c,.int .i64 (S.st:Int),.slice sN.a sN.n sN.c,.slice sO.a sO.n sO.c,.bool false] #[.int .i64 0,.slice none 0 0,.slice none 0 0,.slice none 0 0,.int .i64 0,.slice none 0 0,.slice none 0 0,.bool false] w5/\FA w5 fb f:=⟨TE.1.fm F5.out,TE.2.fm F5.out (by decide)⟩
    refine wpAnyL_appendZ (.tmp 63) (.tmp 74) (i:=15) rfl (by kernel_rfl) (by kernel_rfl) rfl rfl rfl hrun T5 (fun hHeld5=>?_)
    try go_frame
    refine wpAnyL_tkT 16 ?k66v rfl ?k66y ?k66r
    case k66y=>(intro w hSw;(try dsimp only at hSw);go_simp;try with_reducible rfl)
    try go_frame
    refine wpAnyL_tkT 17 ?k67v rfl ?k67y ?k67r
    case k67y=>(intro w hSw;(try dsimp only at hSw);go_simp;try with_reducible rfl)
    try go_frame
    refine wpAnyL_tk 18 ?k68v rfl ?k68y ?k68r
    case k68y=>(intro w hSw;(try dsimp only at hSw);go_simp;try with_reducible rfl)
    try go_frame
    obtain⟨ao5,c5,hv5⟩:=row_sliceZ hown
    subst hv5
    have M5:Hid (MS w5 B {S with hs:=S.hs++[⟨a,true,true⟩]} ⟨ao5,S.hs.length+1,c5⟩ sR sP sN sO bv):=(⟨by
     have q:=ME.out.R.grow (j:=2) (r:=⟨88,3,.slice sH.a sH.n sH.c,S.hs.length,S.hs.flatMap hsL⟩) (r':=⟨88,3,.slice ao5 (S.hs.length+1) c5,(S.hs++[(⟨a,true,true⟩:HS)]).length,(S.hs++[(⟨a,true,true⟩:HS)]).flatMap hsL⟩) rfl hgrow (by unfold Rw.own;rw[List.flatMap_append,List.length_append];simpa using hown) (hat.elim .inl (fun e=>.inr ⟨_,e,Nat.le_refl _⟩))
     exact q,ME.out.L,⟨ME.out.I.st,ME.out.I.d,by have:=HH.out.2;show(S.hs++_).length<=8;rw[List.length_append];simp;omega,ME.out.I.rg,ME.out.I.gv,ME.out.I.ps,ME.out.I.op,ME.out.I.ol,ME.out.I.od⟩⟩:MS w5 B {S with hs:=S.hs++[⟨a,true,true⟩]} ⟨ao5,S.hs.length+1,c5⟩ sR sP sN sO bv)
    have q1:=r0 w5 T5
    have qf:=hp_frz T5.1.P
    have FF:Hid (Fm tsM B w w5):=FE.out.trans F5.out
    have P5:Hid (PX x (x+1) #[.int .i64 S.d,.slice sH.a sH.n sH.c,.slice sR.a sR.n sR.c,.slice sP.a sP.n sP.c,.int .i64 (S.st:Int),.slice sN.a sN.n sN.c,.slice sO.a sO.n sO.c,.bool false] #[.int .i64 0,.slice none 0 0,.slice none 0 0,.slice none 0 0,.int .i64 0,.slice none 0 0,.slice none 0 0,.bool false] w5):=T5.1
    clear hown hgrow hat hrun OH ME FE NW TE hHeld hHeld1 hHeld5 r0 r1 r2 T5 F5
    refine wpAnyL_store rfl (by kernel_rfl) (by kernel_rfl) (fun KK hK=>?_)
    go_simp
    refine hK.out _ _ ?_
    clear hK KK
    have P6:Hid (PX x (x+1) #[.int .i64 S.d,.slice ao5 (S.hs.length+1) c5,.slice sR.a sR.n sR.c,.slice sP.a sP.n sP.c,.int .i64 (S.st:Int),.slice sN.a sN.n sN.c,.slice sO.a sO.n sO.c,.bool false] #[.int .i64 0,.slice none 0 0,.slice none 0 0,.slice none 0 0,.int .i64 0,.slice none 0 0,.slice none 0 0,.bool false] (w5.setCell ⟨x,1,none⟩ (.slice ao5 (S.hs.length+1) c5))):=P5.out.setP 1 _
    have M6:Hid (MS (w5.setCell ⟨x,1,none⟩ (.slice ao5 (S.hs.length+1) c5)) B {S with hs:=S.hs++[⟨a,true,true⟩]} ⟨ao5,S.hs.length+1,c5⟩ sR sP sN sO bv):=M5.out.setP P5.out 1 _
    have F6:Hid (Fm tsM B w (w5.setCell ⟨x,1,none⟩ (.slice ao5 (S.hs.length+1) c5))):=FF.out.setNew (a:=⟨x,1,none⟩) (by have:=HX.out;show _<=x;omega) hBx _
    generalize w5.setCell ⟨x,1,none⟩ (.slice ao5 (S.hs.length+1) c5)=u6 at P6 M6 F6⊢
    clear P5 M5 FF q1 qf
    obtain⟨y0,y1,y2,y3,y4,y5,y6,y7⟩:=hp8 P6.out.P
    obtain⟨z0,z1,z2,z3,z4,z5,z6,z7⟩:=hp8 P6.out.R
    have f9:=hp_frz P6.out.R
    go_wp2
    refine bodyPost_ret (v:=.agg #[.int .i64 S.d,.slice ao5 (S.hs.length+1) c5,.slice sR.a sR.n sR.c,.slice sP.a sP.n sP.c,.int .i64 (S.st:Int),.slice sN.a sN.n sN.c,.slice sO.a sO.n sO.c,.bool false]) (by simp[results,Tryz.results23,go_sem,z0,z1,z2,z3,z4,z5,z6,z7]) rfl ?_
    unfold MR
    rw[HR.out]
    exact⟨F6.out.put8 (by have:=HX.out;omega) (by omega) _ _ _ _ _ _ _ _,_,_,_,_,_,_,rfl,M6.out.put8 P6.out _ _ _ _ _ _ _ _⟩
   ·obtain⟨q5,q6⟩:=beqF HS3.out w3
    obtain⟨q7,q8⟩:=beqF HS3.out w3'
    have HR:Hid (heapS S f=none):=(by unfold heapS;rw[if_pos ⟨H1.out,H2.out,H3.out⟩,hr1,k2,k3]:heapS S f=none)
    clear hr1 k2 k3 w2 w3 w3'
    go_wp2_with fail
    refine(l6Bad_any S.d (S.st:Int) sH sR sP sN sO false u).mono ?_
    rintro e u9⟨rfl,hb9⟩
    have P9:=P0.out.below hb9
    have F9:Hid (Fm tsM B w u9):=F0.out.below hb9 hBu
    obtain⟨z0,z1,z2,z3,z4,z5,z6,z7⟩:=hp8 P9.R
    have f9:=hp_frz P9.R
    clear hb9
    go_wp2
    refine bodyPost_ret (v:=.agg #[.int .i64 S.d,.slice sH.a sH.n sH.c,.slice sR.a sR.n sR.c,.slice sP.a sP.n sP.c,.int .i64 (S.st:Int),.slice sN.a sN.n sN.c,.slice sO.a sO.n sO.c,.bool true]) (by simp[results,Tryz.results23,go_sem,z0,z1,z2,z3,z4,z5,z6,z7]) rfl ?_
    unfold MR
    rw[HR.out]
    exact⟨F9.out.put8 (by have:=HX.out;omega) (by omega) _ _ _ _ _ _ _ _,_,_,_,_,_,_,_,rfl⟩
  ·obtain⟨q1,q2⟩:=beqF HS2.out w2
   obtain⟨q3,q4⟩:=beqF HS2.out w2'
   have HR:Hid (heapS S f=none):=(by unfold heapS;rw[if_pos ⟨H1.out,H2.out,H3.out⟩,hr1,k2]:heapS S f=none)
   clear hr1 k2 w2 w2'
   go_wp2_with fail
   refine(l6Bad_any S.d (S.st:Int) sH sR sP sN sO false u).mono ?_
   rintro e u9⟨rfl,hb9⟩
   have P9:=P0.out.below hb9
   have F9:Hid (Fm tsM B w u9):=F0.out.below hb9 hBu
   obtain⟨z0,z1,z2,z3,z4,z5,z6,z7⟩:=hp8 P9.R
   have f9:=hp_frz P9.R
   clear hb9
   go_wp2
   refine bodyPost_ret (v:=.agg #[.int .i64 S.d,.slice sH.a sH.n sH.c,.slice sR.a sR.n sR.c,.slice sP.a sP.n sP.c,.int .i64 (S.st:Int),.slice sN.a sN.n sN.c,.slice sO.a sO.n sO.c,.bool true]) (by simp[results,Tryz.results23,go_sem,z0,z1,z2,z3,z4,z5,z6,z7]) rfl ?_
   unfold MR
   rw[HR.out]
   exact⟨F9.out.put8 (by have:=HX.out;omega) (by omega) _ _ _ _ _ _ _ _,_,_,_,_,_,_,_,rfl⟩
end Go.Proofs.YtblfmpgdhpbffaaGreatDoor
