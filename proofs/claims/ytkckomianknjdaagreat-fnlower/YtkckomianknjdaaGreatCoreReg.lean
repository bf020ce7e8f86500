import Derived.Test.YtkckomianknjdaaGreatOfCoreF
import Derived.BigRegion
set_option maxHeartbeats 800000
namespace Go.Proofs.YtkckomianknjdaaGreat
open Go.RowKit
theorem Ld(l c q d a b m:Nat)(J y D:Int)(R:Nat->Int)(w:World)(hd:d<8)(ha:a<8)(hb:b<8)(Q:l<w.heap.size)(x:c<w.heap.size)(hF:m<w.heap.size)
 (A:w.cell? (Va l 0)=some (Vs c 8 q))(L:w.cell? (Va c a)=some (.int .u64 (R a)))(M:w.cell? (Va c b)=some (.int .u64 (R b)))(N:w.cell? (Va c d)=some (.int .u64 (R d)))(C:w.frozen? (Va c d)=false)
 (B:w.cell? (Va m 0)=some (.func (.func 88) #[] #[])):
 Calls Tryz.prog 125 #[Vq l,.agg #[Vi J,Vi d,Vi a,Vi b,Vi y,Vi D],Vq m] w fun e j=>e=.returned (.tuple #[])/\Below w.heap.size (w.setCell (Va c d) (.int .u64 (IntKind.u64.wrap (R a+R b)))) j:=by
 have X:(d:Int)<8:=AB;have S:(a:Int)<8:=AB;have U:(b:Int)<8:=AB;go_enter Tryz.func125,Tryz.ntmps125;go_wp2;generalize n:w.alloc (.cells #[Vi J,Vi d,Vi a,Vi b,Vi y,Vi D] 85)=k;have o:Bw w k:=by rw[<-n];exact Ah
 have z:w.heap.size<k.heap.size:=by rw[<-n];simp
 have Y:Below w.heap.size (w.setCell (Va c d) (.int .u64 (IntKind.u64.wrap (R a+R b)))) (k.setCell (Va c d) (.int .u64 (IntKind.u64.wrap (R a+R b)))):=by
  rw[<-n,World.setCell_alloc_past (hn:=x)];exact Al.alloc AY _
 have E:k.cell? ⟨w.heap.size,1,none⟩=some (Vi d):=by rw[<-n];simp[go_sem]
 have F:k.cell? ⟨w.heap.size,2,none⟩=some (Vi a):=by rw[<-n];simp[go_sem]
 have I:k.cell? ⟨w.heap.size,3,none⟩=some (Vi b):=by rw[<-n];simp[go_sem]
 have Z:l<k.heap.size:=AB;have O:c<k.heap.size:=AB;have zF:m<k.heap.size:=AB;have R0:Cb k l 0 (Vs c 8 q):=fun j h=>(h.cell (p:=Va l 0) Z).trans ((o.cell (p:=Va l 0) Q).trans A)
 have R1:∀j,Bw k j->j.cell? ⟨w.heap.size,1,none⟩=some (Vi d):=fun j h=>(h.cell (p:=⟨w.heap.size,1,none⟩) z).trans E
 have R2:∀j,Bw k j->j.cell? ⟨w.heap.size,2,none⟩=some (Vi a):=fun j h=>(h.cell (p:=⟨w.heap.size,2,none⟩) z).trans F
 have R3:∀j,Bw k j->j.cell? ⟨w.heap.size,3,none⟩=some (Vi b):=fun j h=>(h.cell (p:=⟨w.heap.size,3,none⟩) z).trans I
 have R4:Cb k m 0 (.func (.func 88) #[] #[]):=fun j h=>(h.cell (p:=Va m 0) zF).trans ((o.cell (p:=Va m 0) hF).trans B)
 have R5:Cb k c a (.int .u64 (R a)):=fun j h=>(h.cell (p:=Va c a) O).trans ((o.cell (p:=Va c a) x).trans L)
 have R6:Cb k c b (.int .u64 (R b)):=fun j h=>(h.cell (p:=Va c b) O).trans ((o.cell (p:=Va c b) x).trans M)
 have wd:k.cell? (Va c d)=some (.int .u64 (R d)):=(o.cell (p:=Va c d) x).trans N;have wf:k.frozen? (Va c d)=false:=(o.frozen (p:=Va c d) x).trans C;clear n E F I A L M N C B;refine Ak (T:=fun j=>Bw k j) (s:=28) Ab (Al.drew) (fun hHeld=>?_);refine lS [0,1,2,3,4,5,6,7,8,9,10,11,12,13,14,15,16,17,18,19,20,21,22,23,24,25] ?_;refine Ac (i:=26) rfl Ab (fun K u=>?_);go_simp;refine(Uv _ _ _).mono ?_;rintro e j⟨rfl,rfl⟩;go_wp2_with fail;refine u.out _ _ (Al.drew) (fun r=>?_);clear u K;refine BR 27 ?_;refine Ai rfl Ab Ab (fun K u=>?_);go_simp;refine u.out _ _ ?_;clear u K;go_end0;exact⟨rfl,Y.drew⟩
theorem IA(l c q d a b m:Nat)(J y D:Int)(R:Nat->Int)(w:World)(hd:d<8)(ha:a<8)(hb:b<8)(Q:l<w.heap.size)(x:c<w.heap.size)(hF:m<w.heap.size)
 (A:w.cell? (Va l 0)=some (Vs c 8 q))(L:w.cell? (Va c a)=some (.int .u64 (R a)))(M:w.cell? (Va c b)=some (.int .u64 (R b)))(N:w.cell? (Va c d)=some (.int .u64 (R d)))(C:w.frozen? (Va c d)=false)
 (B:w.cell? (Va m 0)=some (.func (.func 89) #[] #[])):
 Calls Tryz.prog 125 #[Vq l,.agg #[Vi J,Vi d,Vi a,Vi b,Vi y,Vi D],Vq m] w fun e j=>e=.returned (.tuple #[])/\Below w.heap.size (w.setCell (Va c d) (.int .u64 (IntKind.u64.wrap (R a-R b)))) j:=by
 have X:(d:Int)<8:=AB;have S:(a:Int)<8:=AB;have U:(b:Int)<8:=AB;go_enter Tryz.func125,Tryz.ntmps125;go_wp2;generalize n:w.alloc (.cells #[Vi J,Vi d,Vi a,Vi b,Vi y,Vi D] 85)=k;have o:Bw w k:=by rw[<-n];exact Ah
 have z:w.heap.size<k.heap.size:=by rw[<-n];simp
 have Y:Below w.heap.size (w.setCell (Va c d) (.int .u64 (IntKind.u64.wrap (R a-R b)))) (k.setCell (Va c d) (.int .u64 (IntKind.u64.wrap (R a-R b)))):=by
  rw[<-n,World.setCell_alloc_past (hn:=x)];exact Al.alloc AY _
 have E:k.cell? ⟨w.heap.size,1,none⟩=some (Vi d):=by rw[<-n];simp[go_sem]
 have F:k.cell? ⟨w.heap.size,2,none⟩=some (Vi a):=by rw[<-n];simp[go_sem]
 have I:k.cell? ⟨w.heap.size,3,none⟩=some (Vi b):=by rw[<-n];simp[go_sem]
 have Z:l<k.heap.size:=AB;have O:c<k.heap.size:=AB;have zF:m<k.heap.size:=AB;have R0:Cb k l 0 (Vs c 8 q):=fun j h=>(h.cell (p:=Va l 0) Z).trans ((o.cell (p:=Va l 0) Q).trans A)
 have R1:∀j,Bw k j->j.cell? ⟨w.heap.size,1,none⟩=some (Vi d):=fun j h=>(h.cell (p:=⟨w.heap.size,1,none⟩) z).trans E
 have R2:∀j,Bw k j->j.cell? ⟨w.heap.size,2,none⟩=some (Vi a):=fun j h=>(h.cell (p:=⟨w.heap.size,2,none⟩) z).trans F
 have R3:∀j,Bw k j->j.cell? ⟨w.heap.size,3,none⟩=some (Vi b):=fun j h=>(h.cell (p:=⟨w.heap.size,3,none⟩) z).trans I
 have R4:Cb k m 0 (.func (.func 89) #[] #[]):=fun j h=>(h.cell (p:=Va m 0) zF).trans ((o.cell (p:=Va m 0) hF).trans B)
 have R5:Cb k c a (.int .u64 (R a)):=fun j h=>(h.cell (p:=Va c a) O).trans ((o.cell (p:=Va c a) x).trans L)
 have R6:Cb k c b (.int .u64 (R b)):=fun j h=>(h.cell (p:=Va c b) O).trans ((o.cell (p:=Va c b) x).trans M)
 have wd:k.cell? (Va c d)=some (.int .u64 (R d)):=(o.cell (p:=Va c d) x).trans N;have wf:k.frozen? (Va c d)=false:=(o.frozen (p:=Va c d) x).trans C;clear n E F I A L M N C B;refine Ak (T:=fun j=>Bw k j) (s:=28) Ab (Al.drew) (fun hHeld=>?_);refine lS [0,1,2,3,4,5,6,7,8,9,10,11,12,13,14,15,16,17,18,19,20,21,22,23,24,25] ?_;refine Ac (i:=26) rfl Ab (fun K u=>?_);go_simp;refine(NR _ _ _).mono ?_;rintro e j⟨rfl,rfl⟩;go_wp2_with fail;refine u.out _ _ (Al.drew) (fun r=>?_);clear u K;refine BR 27 ?_;refine Ai rfl Ab Ab (fun K u=>?_);go_simp;refine u.out _ _ ?_;clear u K;go_end0;exact⟨rfl,Y.drew⟩
theorem JK(l c q d a b m:Nat)(J y D:Int)(R:Nat->Int)(w:World)(hd:d<8)(ha:a<8)(hb:b<8)(Q:l<w.heap.size)(x:c<w.heap.size)(hF:m<w.heap.size)
 (A:w.cell? (Va l 0)=some (Vs c 8 q))(L:w.cell? (Va c a)=some (.int .u64 (R a)))(M:w.cell? (Va c b)=some (.int .u64 (R b)))(N:w.cell? (Va c d)=some (.int .u64 (R d)))(C:w.frozen? (Va c d)=false)
 (B:w.cell? (Va m 0)=some (.func (.func 90) #[] #[])):
 Calls Tryz.prog 125 #[Vq l,.agg #[Vi J,Vi d,Vi a,Vi b,Vi y,Vi D],Vq m] w fun e j=>e=.returned (.tuple #[])/\Below w.heap.size (w.setCell (Va c d) (.int .u64 (IntKind.u64.wrap (R a*R b)))) j:=by
 have X:(d:Int)<8:=AB;have S:(a:Int)<8:=AB;have U:(b:Int)<8:=AB;go_enter Tryz.func125,Tryz.ntmps125;go_wp2;generalize n:w.alloc (.cells #[Vi J,Vi d,Vi a,Vi b,Vi y,Vi D] 85)=k;have o:Bw w k:=by rw[<-n];exact Ah
 have z:w.heap.size<k.heap.size:=by rw[<-n];simp
 have Y:Below w.heap.size (w.setCell (Va c d) (.int .u64 (IntKind.u64.wrap (R a*R b)))) (k.setCell (Va c d) (.int .u64 (IntKind.u64.wrap (R a*R b)))):=by
  rw[<-n,World.setCell_alloc_past (hn:=x)];exact Al.alloc AY _
 have E:k.cell? ⟨w.heap.size,1,none⟩=some (Vi d):=by rw[<-n];simp[go_sem]
 have F:k.cell? ⟨w.heap.size,2,none⟩=some (Vi a):=by rw[<-n];simp[go_sem]
 have I:k.cell? ⟨w.heap.size,3,none⟩=some (Vi b):=by rw[<-n];simp[go_sem]
 have Z:l<k.heap.size:=AB;have O:c<k.heap.size:=AB;have zF:m<k.heap.size:=AB;have R0:Cb k l 0 (Vs c 8 q):=fun j h=>(h.cell (p:=Va l 0) Z).trans ((o.cell (p:=Va l 0) Q).trans A)
 have R1:∀j,Bw k j->j.cell? ⟨w.heap.size,1,none⟩=some (Vi d):=fun j h=>(h.cell (p:=⟨w.heap.size,1,none⟩) z).trans E
 have R2:∀j,Bw k j->j.cell? ⟨w.heap.size,2,none⟩=some (Vi a):=fun j h=>(h.cell (p:=⟨w.heap.size,2,none⟩) z).trans F
 have R3:∀j,Bw k j->j.cell? ⟨w.heap.size,3,none⟩=some (Vi b):=fun j h=>(h.cell (p:=⟨w.heap.size,3,none⟩) z).trans I
 have R4:Cb k m 0 (.func (.func 90) #[] #[]):=fun j h=>(h.cell (p:=Va m 0) zF).trans ((o.cell (p:=Va m 0) hF).trans B)
 have R5:Cb k c a (.int .u64 (R a)):=fun j h=>(h.cell (p:=Va c a) O).trans ((o.cell (p:=Va c a) x).trans L)
 have R6:Cb k c b (.int .u64 (R b)):=fun j h=>(h.cell (p:=Va c b) O).trans ((o.cell (p:=Va c b) x).trans M)
 have wd:k.cell? (Va c d)=some (.int .u64 (R d)):=(o.cell (p:=Va c d) x).trans N;have wf:k.frozen? (Va c d)=false:=(o.frozen (p:=Va c d) x).trans C;clear n E F I A L M N C B;refine Ak (T:=fun j=>Bw k j) (s:=28) Ab (Al.drew) (fun hHeld=>?_);refine lS [0,1,2,3,4,5,6,7,8,9,10,11,12,13,14,15,16,17,18,19,20,21,22,23,24,25] ?_;refine Ac (i:=26) rfl Ab (fun K u=>?_);go_simp;refine(SX _ _ _).mono ?_;rintro e j⟨rfl,rfl⟩;go_wp2_with fail;refine u.out _ _ (Al.drew) (fun r=>?_);clear u K;refine BR 27 ?_;refine Ai rfl Ab Ab (fun K u=>?_);go_simp;refine u.out _ _ ?_;clear u K;go_end0;exact⟨rfl,Y.drew⟩
theorem Iw(l c q d a b m:Nat)(J y D:Int)(R:Nat->Int)(w:World)(hd:d<8)(ha:a<8)(hb:b<8)(Q:l<w.heap.size)(x:c<w.heap.size)(hF:m<w.heap.size)
 (A:w.cell? (Va l 0)=some (Vs c 8 q))(L:w.cell? (Va c a)=some (.int .u64 (R a)))(M:w.cell? (Va c b)=some (.int .u64 (R b)))(N:w.cell? (Va c d)=some (.int .u64 (R d)))(C:w.frozen? (Va c d)=false)
 (B:w.cell? (Va m 0)=some (.func (.func 91) #[] #[])):
 Calls Tryz.prog 125 #[Vq l,.agg #[Vi J,Vi d,Vi a,Vi b,Vi y,Vi D],Vq m] w fun e j=>e=.returned (.tuple #[])/\Below w.heap.size (w.setCell (Va c d) (.int .u64 (bits BinOp.and IntKind.u64 (R a) (R b)))) j:=by
 have X:(d:Int)<8:=AB;have S:(a:Int)<8:=AB;have U:(b:Int)<8:=AB;go_enter Tryz.func125,Tryz.ntmps125;go_wp2;generalize n:w.alloc (.cells #[Vi J,Vi d,Vi a,Vi b,Vi y,Vi D] 85)=k;have o:Bw w k:=by rw[<-n];exact Ah
 have z:w.heap.size<k.heap.size:=by rw[<-n];simp
 have Y:Below w.heap.size (w.setCell (Va c d) (.int .u64 (bits BinOp.and IntKind.u64 (R a) (R b)))) (k.setCell (Va c d) (.int .u64 (bits BinOp.and IntKind.u64 (R a) (R b)))):=by
  rw[<-n,World.setCell_alloc_past (hn:=x)];exact Al.alloc AY _
 have E:k.cell? ⟨w.heap.size,1,none⟩=some (Vi d):=by rw[<-n];simp[go_sem]
 have F:k.cell? ⟨w.heap.size,2,none⟩=some (Vi a):=by rw[<-n];simp[go_sem]
 have I:k.cell? ⟨w.heap.size,3,none⟩=some (Vi b):=by rw[<-n];simp[go_sem]
 have Z:l<k.heap.size:=AB;have O:c<k.heap.size:=AB;have zF:m<k.heap.size:=AB;have R0:Cb k l 0 (Vs c 8 q):=fun j h=>(h.cell (p:=Va l 0) Z).trans ((o.cell (p:=Va l 0) Q).trans A)
 have R1:∀j,Bw k j->j.cell? ⟨w.heap.size,1,none⟩=some (Vi d):=fun j h=>(h.cell (p:=⟨w.heap.size,1,none⟩) z).trans E
 have R2:∀j,Bw k j->j.cell? ⟨w.heap.size,2,none⟩=some (Vi a):=fun j h=>(h.cell (p:=⟨w.heap.size,2,none⟩) z).trans F
 have R3:∀j,Bw k j->j.cell? ⟨w.heap.size,3,none⟩=some (Vi b):=fun j h=>(h.cell (p:=⟨w.heap.size,3,none⟩) z).trans I
 have R4:Cb k m 0 (.func (.func 91) #[] #[]):=fun j h=>(h.cell (p:=Va m 0) zF).trans ((o.cell (p:=Va m 0) hF).trans B)
 have R5:Cb k c a (.int .u64 (R a)):=fun j h=>(h.cell (p:=Va c a) O).trans ((o.cell (p:=Va c a) x).trans L)
 have R6:Cb k c b (.int .u64 (R b)):=fun j h=>(h.cell (p:=Va c b) O).trans ((o.cell (p:=Va c b) x).trans M)
 have wd:k.cell? (Va c d)=some (.int .u64 (R d)):=(o.cell (p:=Va c d) x).trans N;have wf:k.frozen? (Va c d)=false:=(o.frozen (p:=Va c d) x).trans C;clear n E F I A L M N C B;refine Ak (T:=fun j=>Bw k j) (s:=28) Ab (Al.drew) (fun hHeld=>?_);refine lS [0,1,2,3,4,5,6,7,8,9,10,11,12,13,14,15,16,17,18,19,20,21,22,23,24,25] ?_;refine Ac (i:=26) rfl Ab (fun K u=>?_);go_simp;refine(KL _ _ _).mono ?_;rintro e j⟨rfl,rfl⟩;go_wp2_with fail;refine u.out _ _ (Al.drew) (fun r=>?_);clear u K;refine BR 27 ?_;refine Ai rfl Ab Ab (fun K u=>?_);go_simp;refine u.out _ _ ?_;clear u K;go_end0;exact⟨rfl,Y.drew⟩
theorem Hz(l c q d a b m:Nat)(J y D:Int)(R:Nat->Int)(w:World)(hd:d<8)(ha:a<8)(hb:b<8)(Q:l<w.heap.size)(x:c<w.heap.size)(hF:m<w.heap.size)
 (A:w.cell? (Va l 0)=some (Vs c 8 q))(L:w.cell? (Va c a)=some (.int .u64 (R a)))(M:w.cell? (Va c b)=some (.int .u64 (R b)))(N:w.cell? (Va c d)=some (.int .u64 (R d)))(C:w.frozen? (Va c d)=false)
 (B:w.cell? (Va m 0)=some (.func (.func 92) #[] #[])):
 Calls Tryz.prog 125 #[Vq l,.agg #[Vi J,Vi d,Vi a,Vi b,Vi y,Vi D],Vq m] w fun e j=>e=.returned (.tuple #[])/\Below w.heap.size (w.setCell (Va c d) (.int .u64 (bits BinOp.or IntKind.u64 (R a) (R b)))) j:=by
 have X:(d:Int)<8:=AB;have S:(a:Int)<8:=AB;have U:(b:Int)<8:=AB;go_enter Tryz.func125,Tryz.ntmps125;go_wp2;generalize n:w.alloc (.cells #[Vi J,Vi d,Vi a,Vi b,Vi y,Vi D] 85)=k;have o:Bw w k:=by rw[<-n];exact Ah
 have z:w.heap.size<k.heap.size:=by rw[<-n];simp
 have Y:Below w.heap.size (w.setCell (Va c d) (.int .u64 (bits BinOp.or IntKind.u64 (R a) (R b)))) (k.setCell (Va c d) (.int .u64 (bits BinOp.or IntKind.u64 (R a) (R b)))):=by
  rw[<-n,World.setCell_alloc_past (hn:=x)];exact Al.alloc AY _
 have E:k.cell? ⟨w.heap.size,1,none⟩=some (Vi d):=by rw[<-n];simp[go_sem]
 have F:k.cell? ⟨w.heap.size,2,none⟩=some (Vi a):=by rw[<-n];simp[go_sem]
 have I:k.cell? ⟨w.heap.size,3,none⟩=some (Vi b):=by rw[<-n];simp[go_sem]
 have Z:l<k.heap.size:=AB;have O:c<k.heap.size:=AB;have zF:m<k.heap.size:=AB;have R0:Cb k l 0 (Vs c 8 q):=fun j h=>(h.cell (p:=Va l 0) Z).trans ((o.cell (p:=Va l 0) Q).trans A)
 have R1:∀j,Bw k j->j.cell? ⟨w.heap.size,1,none⟩=some (Vi d):=fun j h=>(h.cell (p:=⟨w.heap.size,1,none⟩) z).trans E
 have R2:∀j,Bw k j->j.cell? ⟨w.heap.size,2,none⟩=some (Vi a):=fun j h=>(h.cell (p:=⟨w.heap.size,2,none⟩) z).trans F
 have R3:∀j,Bw k j->j.cell? ⟨w.heap.size,3,none⟩=some (Vi b):=fun j h=>(h.cell (p:=⟨w.heap.size,3,none⟩) z).trans I
 have R4:Cb k m 0 (.func (.func 92) #[] #[]):=fun j h=>(h.cell (p:=Va m 0) zF).trans ((o.cell (p:=Va m 0) hF).trans B)
 have R5:Cb k c a (.int .u64 (R a)):=fun j h=>(h.cell (p:=Va c a) O).trans ((o.cell (p:=Va c a) x).trans L)
 have R6:Cb k c b (.int .u64 (R b)):=fun j h=>(h.cell (p:=Va c b) O).trans ((o.cell (p:=Va c b) x).trans M)
 have wd:k.cell? (Va c d)=some (.int .u64 (R d)):=(o.cell (p:=Va c d) x).trans N;have wf:k.frozen? (Va c d)=false:=(o.frozen (p:=Va c d) x).trans C;clear n E F I A L M N C B;refine Ak (T:=fun j=>Bw k j) (s:=28) Ab (Al.drew) (fun hHeld=>?_);refine lS [0,1,2,3,4,5,6,7,8,9,10,11,12,13,14,15,16,17,18,19,20,21,22,23,24,25] ?_;refine Ac (i:=26) rfl Ab (fun K u=>?_);go_simp;refine(Mq _ _ _).mono ?_;rintro e j⟨rfl,rfl⟩;go_wp2_with fail;refine u.out _ _ (Al.drew) (fun r=>?_);clear u K;refine BR 27 ?_;refine Ai rfl Ab Ab (fun K u=>?_);go_simp;refine u.out _ _ ?_;clear u K;go_end0;exact⟨rfl,Y.drew⟩
theorem JL(l c q d a b m:Nat)(J y D:Int)(R:Nat->Int)(w:World)(hd:d<8)(ha:a<8)(hb:b<8)(Q:l<w.heap.size)(x:c<w.heap.size)(hF:m<w.heap.size)
 (A:w.cell? (Va l 0)=some (Vs c 8 q))(L:w.cell? (Va c a)=some (.int .u64 (R a)))(M:w.cell? (Va c b)=some (.int .u64 (R b)))(N:w.cell? (Va c d)=some (.int .u64 (R d)))(C:w.frozen? (Va c d)=false)
 (B:w.cell? (Va m 0)=some (.func (.func 93) #[] #[])):
 Calls Tryz.prog 125 #[Vq l,.agg #[Vi J,Vi d,Vi a,Vi b,Vi y,Vi D],Vq m] w fun e j=>e=.returned (.tuple #[])/\Below w.heap.size (w.setCell (Va c d) (.int .u64 (bits BinOp.xor IntKind.u64 (R a) (R b)))) j:=by
 have X:(d:Int)<8:=AB;have S:(a:Int)<8:=AB;have U:(b:Int)<8:=AB;go_enter Tryz.func125,Tryz.ntmps125;go_wp2;generalize n:w.alloc (.cells #[Vi J,Vi d,Vi a,Vi b,Vi y,Vi D] 85)=k;have o:Bw w k:=by rw[<-n];exact Ah
 have z:w.heap.size<k.heap.size:=by rw[<-n];simp
 have Y:Below w.heap.size (w.setCell (Va c d) (.int .u64 (bits BinOp.xor IntKind.u64 (R a) (R b)))) (k.setCell (Va c d) (.int .u64 (bits BinOp.xor IntKind.u64 (R a) (R b)))):=by
  rw[<-n,World.setCell_alloc_past (hn:=x)];exact Al.alloc AY _
 have E:k.cell? ⟨w.heap.size,1,none⟩=some (Vi d):=by rw[<-n];simp[go_sem]
 have F:k.cell? ⟨w.heap.size,2,none⟩=some (Vi a):=by rw[<-n];simp[go_sem]
 have I:k.cell? ⟨w.heap.size,3,none⟩=some (Vi b):=by rw[<-n];simp[go_sem]
 have Z:l<k.heap.size:=AB;have O:c<k.heap.size:=AB;have zF:m<k.heap.size:=AB;have R0:Cb k l 0 (Vs c 8 q):=fun j h=>(h.cell (p:=Va l 0) Z).trans ((o.cell (p:=Va l 0) Q).trans A)
 have R1:∀j,Bw k j->j.cell? ⟨w.heap.size,1,none⟩=some (Vi d):=fun j h=>(h.cell (p:=⟨w.heap.size,1,none⟩) z).trans E
 have R2:∀j,Bw k j->j.cell? ⟨w.heap.size,2,none⟩=some (Vi a):=fun j h=>(h.cell (p:=⟨w.heap.size,2,none⟩) z).trans F
 have R3:∀j,Bw k j->j.cell? ⟨w.heap.size,3,none⟩=some (Vi b):=fun j h=>(h.cell (p:=⟨w.heap.size,3,none⟩) z).trans I
 have R4:Cb k m 0 (.func (.func 93) #[] #[]):=fun j h=>(h.cell (p:=Va m 0) zF).trans ((o.cell (p:=Va m 0) hF).trans B)
 have R5:Cb k c a (.int .u64 (R a)):=fun j h=>(h.cell (p:=Va c a) O).trans ((o.cell (p:=Va c a) x).trans L)
 have R6:Cb k c b (.int .u64 (R b)):=fun j h=>(h.cell (p:=Va c b) O).trans ((o.cell (p:=Va c b) x).trans M)
 have wd:k.cell? (Va c d)=some (.int .u64 (R d)):=(o.cell (p:=Va c d) x).trans N;have wf:k.frozen? (Va c d)=false:=(o.frozen (p:=Va c d) x).trans C;clear n E F I A L M N C B;refine Ak (T:=fun j=>Bw k j) (s:=28) Ab (Al.drew) (fun hHeld=>?_);refine lS [0,1,2,3,4,5,6,7,8,9,10,11,12,13,14,15,16,17,18,19,20,21,22,23,24,25] ?_;refine Ac (i:=26) rfl Ab (fun K u=>?_);go_simp;refine(Qq _ _ _).mono ?_;rintro e j⟨rfl,rfl⟩;go_wp2_with fail;refine u.out _ _ (Al.drew) (fun r=>?_);clear u K;refine BR 27 ?_;refine Ai rfl Ab Ab (fun K u=>?_);go_simp;refine u.out _ _ ?_;clear u K;go_end0;exact⟨rfl,Y.drew⟩
end Go.Proofs.YtkckomianknjdaaGreat
