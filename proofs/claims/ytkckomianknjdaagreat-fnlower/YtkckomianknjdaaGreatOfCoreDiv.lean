import Derived.Test.YtkckomianknjdaaGreatOfCoreF
import Derived.BigRegion
import Derived.Test.YtkckomianknjdaaGreatOfBytes
import Derived.Test.YtkckomianknjdaaGreatCoreReg
import Derived.Test.YtkckomianknjdaaGreatOfCoreCatch
import Derived.Test.YtkckomianknjdaaGreatOfCoreSel
import Derived.Test.YtkckomianknjdaaGreatOfLen64
set_option maxHeartbeats 1000000
namespace Go.Proofs.YtkckomianknjdaaGreat
open Go.RowKit
variable {J n:Nat}{j:World}
theorem PW(m k q d a n:Nat)(J b l D:Int)(R:Nat->Int)(w:World)(hd:d<8)(ha:a<8)(N:m<w.heap.size)(y:k<w.heap.size)(hF:n<w.heap.size)
 (A:w.cell? (Va m 0)=some (Vs k 8 q))(L:w.cell? (Va k a)=some (.int .u64 (R a)))(M:w.cell? (Va k d)=some (.int .u64 (R d)))(C:w.frozen? (Va k d)=false)
 (B:w.cell? (Va n 0)=some (.func (.func 88) #[] #[])):
 Calls Tryz.prog 128 #[Vq m,.agg #[Vi J,Vi d,Vi a,Vi b,Vi l,Vi D],Vq n] w fun e c=>e=.returned (.tuple #[])/\Below w.heap.size (w.setCell (Va k d) (.int .u64 (IntKind.u64.wrap (R a+IntKind.u64.wrap l)))) c:=by
 have Q:(d:Int)<8:=AB;have O:(a:Int)<8:=AB;go_enter Tryz.func128,Tryz.ntmps128;go_wp2;generalize o:w.alloc (.cells #[Vi J,Vi d,Vi a,Vi b,Vi l,Vi D] 85)=j;have x:Bw w j:=by rw[<-o];exact Ah
 have z:w.heap.size<j.heap.size:=by rw[<-o];simp
 have S:Below w.heap.size (w.setCell (Va k d) (.int .u64 (IntKind.u64.wrap (R a+IntKind.u64.wrap l)))) (j.setCell (Va k d) (.int .u64 (IntKind.u64.wrap (R a+IntKind.u64.wrap l)))):=by
  rw[<-o,World.setCell_alloc_past (hn:=y)];exact Al.alloc AY _
 have E:j.cell? ⟨w.heap.size,1,none⟩=some (Vi d):=by rw[<-o];simp[go_sem]
 have F:j.cell? ⟨w.heap.size,2,none⟩=some (Vi a):=by rw[<-o];simp[go_sem]
 have I:j.cell? ⟨w.heap.size,4,none⟩=some (Vi l):=by rw[<-o];simp[go_sem]
 have U:m<j.heap.size:=AB;have X:k<j.heap.size:=AB;have zF:n<j.heap.size:=AB;have Y:Cb j m 0 (Vs k 8 q):=fun c h=>(h.cell (p:=Va m 0) U).trans ((x.cell (p:=Va m 0) N).trans A)
 have Z:∀c,Bw j c->c.cell? ⟨w.heap.size,1,none⟩=some (Vi d):=fun c h=>(h.cell (p:=⟨w.heap.size,1,none⟩) z).trans E
 have R2:∀c,Bw j c->c.cell? ⟨w.heap.size,2,none⟩=some (Vi a):=fun c h=>(h.cell (p:=⟨w.heap.size,2,none⟩) z).trans F
 have R3:∀c,Bw j c->c.cell? ⟨w.heap.size,4,none⟩=some (Vi l):=fun c h=>(h.cell (p:=⟨w.heap.size,4,none⟩) z).trans I
 have R4:Cb j n 0 (.func (.func 88) #[] #[]):=fun c h=>(h.cell (p:=Va n 0) zF).trans ((x.cell (p:=Va n 0) hF).trans B)
 have R5:Cb j k a (.int .u64 (R a)):=fun c h=>(h.cell (p:=Va k a) X).trans ((x.cell (p:=Va k a) y).trans L)
 have wd:j.cell? (Va k d)=some (.int .u64 (R d)):=(x.cell (p:=Va k d) y).trans M;have wf:j.frozen? (Va k d)=false:=(x.frozen (p:=Va k d) y).trans C;clear o E F I A L M C B;refine Ak (T:=fun c=>Bw j c) (s:=22) Ab (Al.drew) (fun hHeld=>?_);refine lS [0,1,2,3,4,5,6,7,8,9,10,11,12,13,14,15,16,17,18,19] ?_;refine Ac (i:=20) rfl Ab (fun K u=>?_);go_simp;refine(Uv _ _ _).mono ?_;rintro e c⟨rfl,rfl⟩;go_wp2_with fail;refine u.out _ _ (Al.drew) (fun r=>?_);clear u K;refine BR 21 ?_;refine Ai rfl Ab Ab (fun K u=>?_);go_simp;refine u.out _ _ ?_;clear u K;go_end0;exact⟨rfl,S.drew⟩
theorem KE(m k q d a n:Nat)(J b l D:Int)(R:Nat->Int)(w:World)(hd:d<8)(ha:a<8)(N:m<w.heap.size)(y:k<w.heap.size)(hF:n<w.heap.size)
 (A:w.cell? (Va m 0)=some (Vs k 8 q))(L:w.cell? (Va k a)=some (.int .u64 (R a)))(M:w.cell? (Va k d)=some (.int .u64 (R d)))(C:w.frozen? (Va k d)=false)
 (B:w.cell? (Va n 0)=some (.func (.func 91) #[] #[])):
 Calls Tryz.prog 128 #[Vq m,.agg #[Vi J,Vi d,Vi a,Vi b,Vi l,Vi D],Vq n] w fun e c=>e=.returned (.tuple #[])/\Below w.heap.size (w.setCell (Va k d) (.int .u64 (bits BinOp.and IntKind.u64 (R a) (IntKind.u64.wrap l)))) c:=by
 have Q:(d:Int)<8:=AB;have O:(a:Int)<8:=AB;go_enter Tryz.func128,Tryz.ntmps128;go_wp2;generalize o:w.alloc (.cells #[Vi J,Vi d,Vi a,Vi b,Vi l,Vi D] 85)=j;have x:Bw w j:=by rw[<-o];exact Ah
 have z:w.heap.size<j.heap.size:=by rw[<-o];simp
 have S:Below w.heap.size (w.setCell (Va k d) (.int .u64 (bits BinOp.and IntKind.u64 (R a) (IntKind.u64.wrap l)))) (j.setCell (Va k d) (.int .u64 (bits BinOp.and IntKind.u64 (R a) (IntKind.u64.wrap l)))):=by
  rw[<-o,World.setCell_alloc_past (hn:=y)];exact Al.alloc AY _
 have E:j.cell? ⟨w.heap.size,1,none⟩=some (Vi d):=by rw[<-o];simp[go_sem]
 have F:j.cell? ⟨w.heap.size,2,none⟩=some (Vi a):=by rw[<-o];simp[go_sem]
 have I:j.cell? ⟨w.heap.size,4,none⟩=some (Vi l):=by rw[<-o];simp[go_sem]
 have U:m<j.heap.size:=AB;have X:k<j.heap.size:=AB;have zF:n<j.heap.size:=AB;have Y:Cb j m 0 (Vs k 8 q):=fun c h=>(h.cell (p:=Va m 0) U).trans ((x.cell (p:=Va m 0) N).trans A)
 have Z:∀c,Bw j c->c.cell? ⟨w.heap.size,1,none⟩=some (Vi d):=fun c h=>(h.cell (p:=⟨w.heap.size,1,none⟩) z).trans E
 have R2:∀c,Bw j c->c.cell? ⟨w.heap.size,2,none⟩=some (Vi a):=fun c h=>(h.cell (p:=⟨w.heap.size,2,none⟩) z).trans F
 have R3:∀c,Bw j c->c.cell? ⟨w.heap.size,4,none⟩=some (Vi l):=fun c h=>(h.cell (p:=⟨w.heap.size,4,none⟩) z).trans I
 have R4:Cb j n 0 (.func (.func 91) #[] #[]):=fun c h=>(h.cell (p:=Va n 0) zF).trans ((x.cell (p:=Va n 0) hF).trans B)
 have R5:Cb j k a (.int .u64 (R a)):=fun c h=>(h.cell (p:=Va k a) X).trans ((x.cell (p:=Va k a) y).trans L)
 have wd:j.cell? (Va k d)=some (.int .u64 (R d)):=(x.cell (p:=Va k d) y).trans M;have wf:j.frozen? (Va k d)=false:=(x.frozen (p:=Va k d) y).trans C;clear o E F I A L M C B;refine Ak (T:=fun c=>Bw j c) (s:=22) Ab (Al.drew) (fun hHeld=>?_);refine lS [0,1,2,3,4,5,6,7,8,9,10,11,12,13,14,15,16,17,18,19] ?_;refine Ac (i:=20) rfl Ab (fun K u=>?_);go_simp;refine(KL _ _ _).mono ?_;rintro e c⟨rfl,rfl⟩;go_wp2_with fail;refine u.out _ _ (Al.drew) (fun r=>?_);clear u K;refine BR 21 ?_;refine Ai rfl Ab Ab (fun K u=>?_);go_simp;refine u.out _ _ ?_;clear u K;go_end0;exact⟨rfl,S.drew⟩
theorem Jj(m l q d a n:Nat)(J b c D:Int)(R:Nat->Int)(w:World)(hd:d<8)(ha:a<8)(m0:0<=c)(m1:c<=63)(N:m<w.heap.size)(y:l<w.heap.size)(hF:n<w.heap.size)
 (A:w.cell? (Va m 0)=some (Vs l 8 q))(L:w.cell? (Va l a)=some (.int .u64 (R a)))(M:w.cell? (Va l d)=some (.int .u64 (R d)))(C:w.frozen? (Va l d)=false)
 (B:w.cell? (Va n 0)=some (.func (.func 96) #[] #[])):
 Calls Tryz.prog 128 #[Vq m,.agg #[Vi J,Vi d,Vi a,Vi b,Vi c,Vi D],Vq n] w fun e j=>e=.returned (.tuple #[])/\Below w.heap.size (w.setCell (Va l d) (.int .u64 (IntKind.u64.wrap (R a*2^(IntKind.u64.wrap c).toNat)))) j:=by
 have Q:(d:Int)<8:=AB;have O:(a:Int)<8:=AB;go_enter Tryz.func128,Tryz.ntmps128;go_wp2;generalize o:w.alloc (.cells #[Vi J,Vi d,Vi a,Vi b,Vi c,Vi D] 85)=k;have x:Bw w k:=by rw[<-o];exact Ah
 have z:w.heap.size<k.heap.size:=by rw[<-o];simp
 have S:Below w.heap.size (w.setCell (Va l d) (.int .u64 (IntKind.u64.wrap (R a*2^(IntKind.u64.wrap c).toNat)))) (k.setCell (Va l d) (.int .u64 (IntKind.u64.wrap (R a*2^(IntKind.u64.wrap c).toNat)))):=by
  rw[<-o,World.setCell_alloc_past (hn:=y)];exact Al.alloc AY _
 have E:k.cell? ⟨w.heap.size,1,none⟩=some (Vi d):=by rw[<-o];simp[go_sem]
 have F:k.cell? ⟨w.heap.size,2,none⟩=some (Vi a):=by rw[<-o];simp[go_sem]
 have I:k.cell? ⟨w.heap.size,4,none⟩=some (Vi c):=by rw[<-o];simp[go_sem]
 have U:m<k.heap.size:=AB;have X:l<k.heap.size:=AB;have zF:n<k.heap.size:=AB;have Y:Cb k m 0 (Vs l 8 q):=fun j h=>(h.cell (p:=Va m 0) U).trans ((x.cell (p:=Va m 0) N).trans A)
 have Z:∀j,Bw k j->j.cell? ⟨w.heap.size,1,none⟩=some (Vi d):=fun j h=>(h.cell (p:=⟨w.heap.size,1,none⟩) z).trans E
 have R2:∀j,Bw k j->j.cell? ⟨w.heap.size,2,none⟩=some (Vi a):=fun j h=>(h.cell (p:=⟨w.heap.size,2,none⟩) z).trans F
 have R3:∀j,Bw k j->j.cell? ⟨w.heap.size,4,none⟩=some (Vi c):=fun j h=>(h.cell (p:=⟨w.heap.size,4,none⟩) z).trans I
 have R4:Cb k n 0 (.func (.func 96) #[] #[]):=fun j h=>(h.cell (p:=Va n 0) zF).trans ((x.cell (p:=Va n 0) hF).trans B)
 have R5:Cb k l a (.int .u64 (R a)):=fun j h=>(h.cell (p:=Va l a) X).trans ((x.cell (p:=Va l a) y).trans L)
 have wd:k.cell? (Va l d)=some (.int .u64 (R d)):=(x.cell (p:=Va l d) y).trans M;have wf:k.frozen? (Va l d)=false:=(x.frozen (p:=Va l d) y).trans C;clear o E F I A L M C B;refine Ak (T:=fun j=>Bw k j) (s:=22) Ab (Al.drew) (fun hHeld=>?_);refine lS [0,1,2,3,4,5,6,7,8,9,10,11,12,13,14,15,16,17,18,19] ?_;refine Ac (i:=20) rfl Ab (fun K u=>?_);go_simp;refine(OJ _ _ _ (by rw[IntKind.wrap_u64];omega) (by rw[IntKind.wrap_u64];omega)).mono ?_;rintro e j⟨rfl,rfl⟩;go_wp2_with fail;refine u.out _ _ (Al.drew) (fun r=>?_);clear u K;refine BR 21 ?_;refine Ai rfl Ab Ab (fun K u=>?_);go_simp;refine u.out _ _ ?_;clear u K;go_end0;exact⟨rfl,S.drew⟩
theorem JM(m l q d a n:Nat)(J b c D:Int)(R:Nat->Int)(w:World)(hd:d<8)(ha:a<8)(m0:0<=c)(m1:c<=63)(N:m<w.heap.size)(y:l<w.heap.size)(hF:n<w.heap.size)
 (A:w.cell? (Va m 0)=some (Vs l 8 q))(L:w.cell? (Va l a)=some (.int .u64 (R a)))(M:w.cell? (Va l d)=some (.int .u64 (R d)))(C:w.frozen? (Va l d)=false)
 (B:w.cell? (Va n 0)=some (.func (.func 97) #[] #[])):
 Calls Tryz.prog 128 #[Vq m,.agg #[Vi J,Vi d,Vi a,Vi b,Vi c,Vi D],Vq n] w fun e j=>e=.returned (.tuple #[])/\Below w.heap.size (w.setCell (Va l d) (.int .u64 (R a/2^(IntKind.u64.wrap c).toNat))) j:=by
 have Q:(d:Int)<8:=AB;have O:(a:Int)<8:=AB;go_enter Tryz.func128,Tryz.ntmps128;go_wp2;generalize o:w.alloc (.cells #[Vi J,Vi d,Vi a,Vi b,Vi c,Vi D] 85)=k;have x:Bw w k:=by rw[<-o];exact Ah
 have z:w.heap.size<k.heap.size:=by rw[<-o];simp
 have S:Below w.heap.size (w.setCell (Va l d) (.int .u64 (R a/2^(IntKind.u64.wrap c).toNat))) (k.setCell (Va l d) (.int .u64 (R a/2^(IntKind.u64.wrap c).toNat))):=by
  rw[<-o,World.setCell_alloc_past (hn:=y)];exact Al.alloc AY _
 have E:k.cell? ⟨w.heap.size,1,none⟩=some (Vi d):=by rw[<-o];simp[go_sem]
 have F:k.cell? ⟨w.heap.size,2,none⟩=some (Vi a):=by rw[<-o];simp[go_sem]
 have I:k.cell? ⟨w.heap.size,4,none⟩=some (Vi c):=by rw[<-o];simp[go_sem]
 have U:m<k.heap.size:=AB;have X:l<k.heap.size:=AB;have zF:n<k.heap.size:=AB;have Y:Cb k m 0 (Vs l 8 q):=fun j h=>(h.cell (p:=Va m 0) U).trans ((x.cell (p:=Va m 0) N).trans A)
 have Z:∀j,Bw k j->j.cell? ⟨w.heap.size,1,none⟩=some (Vi d):=fun j h=>(h.cell (p:=⟨w.heap.size,1,none⟩) z).trans E
 have R2:∀j,Bw k j->j.cell? ⟨w.heap.size,2,none⟩=some (Vi a):=fun j h=>(h.cell (p:=⟨w.heap.size,2,none⟩) z).trans F
 have R3:∀j,Bw k j->j.cell? ⟨w.heap.size,4,none⟩=some (Vi c):=fun j h=>(h.cell (p:=⟨w.heap.size,4,none⟩) z).trans I
 have R4:Cb k n 0 (.func (.func 97) #[] #[]):=fun j h=>(h.cell (p:=Va n 0) zF).trans ((x.cell (p:=Va n 0) hF).trans B)
 have R5:Cb k l a (.int .u64 (R a)):=fun j h=>(h.cell (p:=Va l a) X).trans ((x.cell (p:=Va l a) y).trans L)
 have wd:k.cell? (Va l d)=some (.int .u64 (R d)):=(x.cell (p:=Va l d) y).trans M;have wf:k.frozen? (Va l d)=false:=(x.frozen (p:=Va l d) y).trans C;clear o E F I A L M C B;refine Ak (T:=fun j=>Bw k j) (s:=22) Ab (Al.drew) (fun hHeld=>?_);refine lS [0,1,2,3,4,5,6,7,8,9,10,11,12,13,14,15,16,17,18,19] ?_;refine Ac (i:=20) rfl Ab (fun K u=>?_);go_simp;refine(Nb _ _ _ (by rw[IntKind.wrap_u64];omega) (by rw[IntKind.wrap_u64];omega)).mono ?_;rintro e j⟨rfl,rfl⟩;go_wp2_with fail;refine u.out _ _ (Al.drew) (fun r=>?_);clear u K;refine BR 21 ?_;refine Ai rfl Ab Ab (fun K u=>?_);go_simp;refine u.out _ _ ?_;clear u K;go_end0;exact⟨rfl,S.drew⟩
section
variable{w:World}{base bC:Nat}{p:Pl}{nx:Int}{tab:List Value}{M:MV}
theorem CQ{X:World}{d:Pl}{h:Int}{b:MV}(l:Core X base bC d h tab b)(c:X.heap.size=w.heap.size)(m:Keep w X)(e:Below base w X)(k:base<=w.heap.size)(a:Below w.heap.size X j):Hy base bC tab w (.done b h) (.returned (.tuple #[])) j:=
 ⟨e.trans (a.mono k),m.trans (Keep.below (by rw[c];exact a)),rfl,d,l.below (by rw[c];exact a)⟩
theorem IB(h:Core w base bC p nx tab M)(a:Below w.heap.size w j):Hy base bC tab w (.flt M) (.panicked [{v:=.iface 138 (.agg #[]),recovered:=false}]) j:=
 ⟨a.mono h.size,Keep.below a,rfl,p,nx,h.below a⟩
theorem Et{r k:Int}{B:Nat}{X:World}(a:B<=J)(h:Below B w X):Below B w (flagged X J r k):=
 (((h.setCell (by simpa using a) _).setCell (by simpa using a) _).setCell (by simpa using a) _).setCell (by simpa using a) _
theorem fO(c:Core w base bC p nx tab M)(_hk:M.Ok)(m:Int)(d a b h:Nat)(j:Int)(l:d<8)(k:a<8):
 Calls Tryz.prog 85 #[Vq bC,.agg #[Vi m,Vi d,Vi a,Vi b,Vi j,Vi h]] w (Hy base bC tab w (exec 1 d a b h j M nx)):=by
 refine(VF bC p.bR p.cR d a m b j h M.R w l k c.lt.2 c.ltR.2 c.c0 (c.reg k) (c.reg l) (c.freeR d)).mono ?_;rintro e o⟨rfl,n⟩;exact CQ (c.setR d _) AY (c.keepR d _) (Al.setCell (by simpa using c.ltR.1) _) c.size n
theorem Yu(c:Core w base bC p nx tab M)(_hk:M.Ok)(l:Int)(d a b h:Nat)(j:Int)(k:d<8):
 Calls Tryz.prog 86 #[Vq bC,.agg #[Vi l,Vi d,Vi a,Vi b,Vi j,Vi h]] w (Hy base bC tab w (exec 2 d a b h j M nx)):=by
 refine(UQ bC p.bR p.cR d l a b j h M.R w k c.lt.2 c.ltR.2 c.c0 (c.reg k) (c.freeR d)).mono ?_;rintro e n⟨rfl,m⟩;exact CQ (c.setR d _) AY (c.keepR d _) (Al.setCell (by simpa using c.ltR.1) _) c.size m
theorem TR(c:Core w base bC p nx tab M)(_hk:M.Ok)(o:Int)(d a b h:Nat)(j:Int)(m:d<8)(k:a<8)(l:b<8)(q:w.cell? (Va n 0)=some (.func (.func 88) #[] #[]))(s:n<w.heap.size):
 Calls Tryz.prog 125 #[Vq bC,.agg #[Vi o,Vi d,Vi a,Vi b,Vi j,Vi h],Vq n] w (Hy base bC tab w (exec 3 d a b h j M nx)):=by
 refine(Ld bC p.bR p.cR d a b n o j h M.R w m k l c.lt.2 c.ltR.2 s c.c0 (c.reg k) (c.reg l) (c.reg m) (c.freeR d) q).mono ?_;rintro e u⟨rfl,r⟩;exact CQ (c.setR d _) AY (c.keepR d _) (Al.setCell (by simpa using c.ltR.1) _) c.size r
theorem KY(c:Core w base bC p nx tab M)(_hk:M.Ok)(o:Int)(d a b h:Nat)(j:Int)(m:d<8)(k:a<8)(l:b<8)(q:w.cell? (Va n 0)=some (.func (.func 89) #[] #[]))(s:n<w.heap.size):
 Calls Tryz.prog 125 #[Vq bC,.agg #[Vi o,Vi d,Vi a,Vi b,Vi j,Vi h],Vq n] w (Hy base bC tab w (exec 4 d a b h j M nx)):=by
 refine(IA bC p.bR p.cR d a b n o j h M.R w m k l c.lt.2 c.ltR.2 s c.c0 (c.reg k) (c.reg l) (c.reg m) (c.freeR d) q).mono ?_;rintro e u⟨rfl,r⟩;exact CQ (c.setR d _) AY (c.keepR d _) (Al.setCell (by simpa using c.ltR.1) _) c.size r
theorem NY(c:Core w base bC p nx tab M)(_hk:M.Ok)(o:Int)(d a b h:Nat)(j:Int)(m:d<8)(k:a<8)(l:b<8)(q:w.cell? (Va n 0)=some (.func (.func 90) #[] #[]))(s:n<w.heap.size):
 Calls Tryz.prog 125 #[Vq bC,.agg #[Vi o,Vi d,Vi a,Vi b,Vi j,Vi h],Vq n] w (Hy base bC tab w (exec 5 d a b h j M nx)):=by
 refine(JK bC p.bR p.cR d a b n o j h M.R w m k l c.lt.2 c.ltR.2 s c.c0 (c.reg k) (c.reg l) (c.reg m) (c.freeR d) q).mono ?_;rintro e u⟨rfl,r⟩;exact CQ (c.setR d _) AY (c.keepR d _) (Al.setCell (by simpa using c.ltR.1) _) c.size r
theorem Lg(c:Core w base bC p nx tab M)(_hk:M.Ok)(o:Int)(d a b h:Nat)(j:Int)(m:d<8)(k:a<8)(l:b<8)(q:w.cell? (Va n 0)=some (.func (.func 91) #[] #[]))(s:n<w.heap.size):
 Calls Tryz.prog 125 #[Vq bC,.agg #[Vi o,Vi d,Vi a,Vi b,Vi j,Vi h],Vq n] w (Hy base bC tab w (exec 6 d a b h j M nx)):=by
 refine(Iw bC p.bR p.cR d a b n o j h M.R w m k l c.lt.2 c.ltR.2 s c.c0 (c.reg k) (c.reg l) (c.reg m) (c.freeR d) q).mono ?_;rintro e u⟨rfl,r⟩;exact CQ (c.setR d _) AY (c.keepR d _) (Al.setCell (by simpa using c.ltR.1) _) c.size r
theorem KG(c:Core w base bC p nx tab M)(_hk:M.Ok)(o:Int)(d a b h:Nat)(j:Int)(m:d<8)(k:a<8)(l:b<8)(q:w.cell? (Va n 0)=some (.func (.func 92) #[] #[]))(s:n<w.heap.size):
 Calls Tryz.prog 125 #[Vq bC,.agg #[Vi o,Vi d,Vi a,Vi b,Vi j,Vi h],Vq n] w (Hy base bC tab w (exec 7 d a b h j M nx)):=by
 refine(Hz bC p.bR p.cR d a b n o j h M.R w m k l c.lt.2 c.ltR.2 s c.c0 (c.reg k) (c.reg l) (c.reg m) (c.freeR d) q).mono ?_;rintro e u⟨rfl,r⟩;exact CQ (c.setR d _) AY (c.keepR d _) (Al.setCell (by simpa using c.ltR.1) _) c.size r
theorem NA(c:Core w base bC p nx tab M)(_hk:M.Ok)(o:Int)(d a b h:Nat)(j:Int)(m:d<8)(k:a<8)(l:b<8)(q:w.cell? (Va n 0)=some (.func (.func 93) #[] #[]))(s:n<w.heap.size):
 Calls Tryz.prog 125 #[Vq bC,.agg #[Vi o,Vi d,Vi a,Vi b,Vi j,Vi h],Vq n] w (Hy base bC tab w (exec 8 d a b h j M nx)):=by
 refine(JL bC p.bR p.cR d a b n o j h M.R w m k l c.lt.2 c.ltR.2 s c.c0 (c.reg k) (c.reg l) (c.reg m) (c.freeR d) q).mono ?_;rintro e u⟨rfl,r⟩;exact CQ (c.setR d _) AY (c.keepR d _) (Al.setCell (by simpa using c.ltR.1) _) c.size r
theorem UC(c:Core w base bC p nx tab M)(_hk:M.Ok)(m:Int)(d a b h:Nat)(j:Int)(l:d<8)(k:a<8)(o:w.cell? (Va n 0)=some (.func (.func 88) #[] #[]))(r:n<w.heap.size):
 Calls Tryz.prog 128 #[Vq bC,.agg #[Vi m,Vi d,Vi a,Vi b,Vi j,Vi h],Vq n] w (Hy base bC tab w (exec 10 d a b h j M nx)):=by
 refine(PW bC p.bR p.cR d a n m b j h M.R w l k c.lt.2 c.ltR.2 r c.c0 (c.reg k) (c.reg l) (c.freeR d) o).mono ?_;rintro e s⟨rfl,q⟩;exact CQ (c.setR d _) AY (c.keepR d _) (Al.setCell (by simpa using c.ltR.1) _) c.size q
theorem Lh(c:Core w base bC p nx tab M)(_hk:M.Ok)(m:Int)(d a b h:Nat)(j:Int)(l:d<8)(k:a<8)(o:w.cell? (Va n 0)=some (.func (.func 91) #[] #[]))(r:n<w.heap.size):
 Calls Tryz.prog 128 #[Vq bC,.agg #[Vi m,Vi d,Vi a,Vi b,Vi j,Vi h],Vq n] w (Hy base bC tab w (exec 11 d a b h j M nx)):=by
 refine(KE bC p.bR p.cR d a n m b j h M.R w l k c.lt.2 c.ltR.2 r c.c0 (c.reg k) (c.reg l) (c.freeR d) o).mono ?_;rintro e s⟨rfl,q⟩;exact CQ (c.setR d _) AY (c.keepR d _) (Al.setCell (by simpa using c.ltR.1) _) c.size q
theorem Kr(j:Core w base bC p nx tab M)(_hk:M.Ok)(m:Int)(d a b h:Nat)(c:Int)(l:d<8)(k:a<8)(s:0<=c)(u:c<=63)(o:w.cell? (Va n 0)=some (.func (.func 96) #[] #[]))(r:n<w.heap.size):
 Calls Tryz.prog 128 #[Vq bC,.agg #[Vi m,Vi d,Vi a,Vi b,Vi c,Vi h],Vq n] w (Hy base bC tab w (exec 12 d a b h c M nx)):=by
 refine(Jj bC p.bR p.cR d a n m b c h M.R w l k s u j.lt.2 j.ltR.2 r j.c0 (j.reg k) (j.reg l) (j.freeR d) o).mono ?_;rintro e x⟨rfl,q⟩;exact CQ (j.setR d _) AY (j.keepR d _) (Al.setCell (by simpa using j.ltR.1) _) j.size q
theorem KZ(j:Core w base bC p nx tab M)(_hk:M.Ok)(m:Int)(d a b h:Nat)(c:Int)(l:d<8)(k:a<8)(s:0<=c)(u:c<=63)(o:w.cell? (Va n 0)=some (.func (.func 97) #[] #[]))(r:n<w.heap.size):
 Calls Tryz.prog 128 #[Vq bC,.agg #[Vi m,Vi d,Vi a,Vi b,Vi c,Vi h],Vq n] w (Hy base bC tab w (exec 13 d a b h c M nx)):=by
 refine(JM bC p.bR p.cR d a n m b c h M.R w l k s u j.lt.2 j.ltR.2 r j.c0 (j.reg k) (j.reg l) (j.freeR d) o).mono ?_;rintro e x⟨rfl,q⟩;exact CQ (j.setR d _) AY (j.keepR d _) (Al.setCell (by simpa using j.ltR.1) _) j.size q
theorem YK(j:Core w base bC p nx tab M)(o:M.Ok)(q:Int)(d a b h:Nat)(k:Int)(n:d<8)(l:a<8)(m:b<8):
 Calls Tryz.prog 98 #[Vq bC,.agg #[Vi q,Vi d,Vi a,Vi b,Vi k,Vi h]] w (Hy base bC tab w (exec 14 d a b h k M nx)):=by
 refine(UM bC p.bR p.cR d a b q k h M.R M.z M.c M.hz M.hc w n l m j.lt.2 j.ltR.2 j.neR (o.reg a l).1 (o.reg b m).1 j.c0 (j.reg l) (j.reg m) (j.reg n) (j.freeR d) j.c1 j.c2 j.c3 j.c4 j.free).mono ?_;rintro e s⟨rfl,r⟩;exact CQ ((j.setR d _).flagged _ _) (by rw[FL];simp) ((j.keepR d _).trans ((j.setR d _).keepF _ _)) (Et j.lt.1 (Al.setCell (by simpa using j.ltR.1) _)) j.size r
theorem fC(j:Core w base bC p nx tab M)(r:M.Ok)(o:Int)(d a b h:Nat)(k:Int)(q:d<8)(l:a<8)(m:b<8):
 Calls Tryz.prog 99 #[Vq bC,.agg #[Vi o,Vi d,Vi a,Vi b,Vi k,Vi h]] w (Hy base bC tab w (exec 15 d a b h k M nx)):=by
 cases hhc:M.hc with
 |false=>
  refine(Xo bC o d a b k h M.c w j.lt.2 j.c2 (hhc▸j.c4)).mono ?_;rintro e s⟨rfl,n⟩;simp only[exec,hhc];exact IB j n
 |true=>
  refine(Vv bC p.bR p.cR d a b o k h M.R M.z M.c M.hz w q l m j.lt.2 j.ltR.2 j.neR (r.reg a l).1 (r.reg b m).1 j.c0 (j.reg l) (j.reg m) (j.reg q) (j.freeR d) j.c1 j.c2 j.c3 (hhc▸j.c4) j.free).mono ?_;rintro e s⟨rfl,n⟩;simp only[exec,hhc];exact CQ ((j.setR d _).flagged _ _) (by rw[FL];simp) ((j.keepR d _).trans ((j.setR d _).keepF _ _)) (Et j.lt.1 (Al.setCell (by simpa using j.ltR.1) _)) j.size n
theorem Yp(j:Core w base bC p nx tab M)(n:M.Ok)(q:Int)(d a b h:Nat)(k:Int)(o:d<8)(m:a<8)(l:b<8):
 Calls Tryz.prog 100 #[Vq bC,.agg #[Vi q,Vi d,Vi a,Vi b,Vi k,Vi h]] w (Hy base bC tab w (exec 16 d a b h k M nx)):=by
 refine(TM bC p.bR p.cR d a b q k h M.R M.z M.c M.hz M.hc w o m l j.lt.2 j.ltR.2 j.neR (n.reg a m).1 (n.reg b l).1 (n.reg b l).2 j.c0 (j.reg m) (j.reg l) (j.reg o) (j.freeR d) j.c1 j.c2 j.c3 j.c4 j.free).mono ?_;rintro e s⟨rfl,r⟩;exact CQ ((j.flagged _ _).setR d _) (by rw[World.size_setCell,FL]) ((j.keepF _ _).trans ((j.flagged _ _).keepR d _)) ((Et j.lt.1 Al).setCell (by simpa using j.ltR.1) _) j.size r
theorem gY(j:Core w base bC p nx tab M)(n:M.Ok)(o:Int)(d a b h:Nat)(k:Int)(m:a<8)(l:b<8):
 Calls Tryz.prog 101 #[Vq bC,.agg #[Vi o,Vi d,Vi a,Vi b,Vi k,Vi h]] w (Hy base bC tab w (exec 17 d a b h k M nx)):=by
 refine(Vt bC p.bR p.cR a b o d k h M.R M.z M.c M.hz M.hc w m l j.lt.2 j.ltR.2 j.neR (n.reg a m).1 (n.reg b l).1 (n.reg b l).2 j.c0 (j.reg m) (j.reg l) j.c1 j.c2 j.c3 j.c4 j.free).mono ?_;rintro e r⟨rfl,q⟩;exact CQ (j.flagged _ _) FL (j.keepF _ _) (Et j.lt.1 Al) j.size q
theorem YF(j:Core w base bC p nx tab M)(n:M.Ok)(m:Int)(d a b h:Nat)(k:Int)(l:a<8):
 Calls Tryz.prog 102 #[Vq bC,.agg #[Vi m,Vi d,Vi a,Vi b,Vi k,Vi h]] w (Hy base bC tab w (exec 18 d a b h k M nx)):=by
 refine(TP bC p.bR p.cR a m d b k h M.R M.z M.c M.hz M.hc w l j.lt.2 j.ltR.2 j.neR (n.reg a l).1 j.c0 (j.reg l) j.c1 j.c2 j.c3 j.c4 j.free).mono ?_;rintro e q⟨rfl,o⟩;exact CQ (j.flagged _ _) FL (j.keepF _ _) (Et j.lt.1 Al) j.size o
theorem YQ(c:Core w base bC p nx tab M)(_hk:M.Ok)(l:Int)(d a b h:Nat)(j:Int)(r:d<8)(o:a<8)(q:b<8)(m:w.cell? (Va n 0)=some (.func (.func 104) #[] #[]))(s:n<w.heap.size):
 Calls Tryz.prog 131 #[Vq bC,.agg #[Vi l,Vi d,Vi a,Vi b,Vi j,Vi h],Vq n] w (Hy base bC tab w (exec 19 d a b h j M nx)):=by
 cases hhc:M.hz with
 |false=>
  refine(Y0 bC n l d a b j h M.z w c.lt.2 s c.c1 (hhc▸c.c3) m).mono ?_;rintro e u⟨rfl,k⟩;simp only[exec,hhc];exact IB c k
 |true=>
  refine(WS bC p.bR p.cR d a b n l j h M.R M.z w r o q c.lt.2 c.ltR.2 s c.c0 (c.reg o) (c.reg q) (c.reg r) (c.freeR d) c.c1 (hhc▸c.c3) m).mono ?_;rintro e u⟨rfl,k⟩;simp only[exec,hhc];exact CQ (c.setR d _) AY (c.keepR d _) (Al.setCell (by simpa using c.ltR.1) _) c.size k
theorem YS(j:Core w base bC p nx tab M)(_hk:M.Ok)(m:Int)(d a b h:Nat)(k:Int)(s:d<8)(q:a<8)(r:b<8)(o:w.cell? (Va n 0)=some (.func (.func 105) #[] #[]))(u:n<w.heap.size):
 Calls Tryz.prog 131 #[Vq bC,.agg #[Vi m,Vi d,Vi a,Vi b,Vi k,Vi h],Vq n] w (Hy base bC tab w (exec 20 d a b h k M nx)):=by
 cases hhc:M.hc with
 |false=>
  refine(YH bC n m d a b k h M.c w j.lt.2 u j.c2 (hhc▸j.c4) o).mono ?_;rintro e x⟨rfl,l⟩;simp only[exec,hhc];exact IB j l
 |true=>
  refine(XP bC p.bR p.cR d a b n m k h M.R M.c w s q r j.lt.2 j.ltR.2 u j.c0 (j.reg q) (j.reg r) (j.reg s) (j.freeR d) j.c2 (hhc▸j.c4) o).mono ?_;rintro e x⟨rfl,l⟩;simp only[exec,hhc];exact CQ (j.setR d _) AY (j.keepR d _) (Al.setCell (by simpa using j.ltR.1) _) j.size l
theorem iA(c:Core w base bC p nx tab M)(_hk:M.Ok)(k:Int)(d a b h:Nat)(j:Int):
 Calls Tryz.prog 110 #[Vq bC,.agg #[Vi k,Vi d,Vi a,Vi b,Vi j,Vi h]] w (Hy base bC tab w (exec 29 d a b h j M nx)):=by
 refine(VD bC k d a b j h nx w c.lt.2 c.c9 (c.free 9)).mono ?_;rintro e m⟨rfl,l⟩;exact CQ (c.next _) AY (c.keepC 9 _) (Al.setCell (by simpa using c.lt.1) _) c.size l
theorem YI(c:Core w base bC p nx tab M)(_hk:M.Ok)(k:Int)(d a b h:Nat)(j:Int):
 Calls Tryz.prog 112 #[Vq bC,.agg #[Vi k,Vi d,Vi a,Vi b,Vi j,Vi h]] w (Hy base bC tab w (exec 34 d a b h j M nx)):=by
 refine(TY bC k d a b j h nx M.pc M.st w c.lt.2 c.c6 c.c7 c.c9 (c.free 7) (c.free 9)).mono ?_;rintro e m⟨rfl,l⟩;exact CQ ((c.setSt 1).next _) AY ((c.keepC 7 _).trans ((c.setSt 1).keepC 9 _)) ((Al.setCell (by simpa using c.lt.1) _).setCell (by simpa using c.lt.1) _) c.size l
theorem Oe(j:Core w base bC p nx tab M)(_hk:M.Ok){c:Nat}(q:Int)(d a b h:Nat)(k:Int)(E:M.nO<=1048576)(r:w.cell? (Va n 0)=some (.func (.func 104) #[] #[]))(x:n<w.heap.size)(s:w.cell? (Va c 0)=some (.bool true))(y:c<w.heap.size):
 Calls Tryz.prog 136 #[Vq bC,.agg #[Vi q,Vi d,Vi a,Vi b,Vi k,Vi h],Vq n,Vq c] w (Hy base bC tab w (exec 30 d a b h k M nx)):=by
 cases hhc:M.hz with
 |false=>
  refine(RQ bC n c q d a b k h M.z true w j.lt.2 x y j.c1 (hhc▸j.c3) r s).mono ?_;rintro e I⟨rfl,l⟩;simp only[exec,Cw,hhc];exact IB j l
 |true=>
  refine(Ow base bC n c M.nO q d a b k h nx M.z true (.slice p.aO M.nO p.cO) (first (M.nO*2) (CR M.K M.V)) w E j.size j.lt.2 x y j.neO j.c8 j.c9 j.free j.mem.obs j.c1 (hhc▸j.c3) r s).mono ?_;rintro e I⟨A,B,rfl,F,D,l⟩;have o:Seen base bC M.nO (.slice p.aO M.nO p.cO) (first (M.nO*2) (CR M.K M.V)) 2 (if M.z==true then 1 else 0) w (B.setCell (Va bC 8) A):=⟨A,B,F,D,by simpa using Below.refl _ _⟩
  obtain⟨g,C,m⟩:=j.seen o;have u:=o.below j.size j.lt.1 j.mem.obs;simp only[exec,Cw,hhc,if_true];cases hq:(M.z==true)with
  |false=>
   rw[hq]at l m;subst l;exact⟨u,j.keepS o,rfl,_,m⟩
  |true=>
   rw[hq]at l m;subst l;exact⟨u.setCell (by simpa using j.lt.1) _,(j.keepS o).trans (m.keepC 9 _),rfl,_,m.next k⟩
theorem NH(j:Core w base bC p nx tab M)(_hk:M.Ok){c:Nat}(q:Int)(d a b h:Nat)(k:Int)(E:M.nO<=1048576)(r:w.cell? (Va n 0)=some (.func (.func 104) #[] #[]))(x:n<w.heap.size)(s:w.cell? (Va c 0)=some (.bool false))(y:c<w.heap.size):
 Calls Tryz.prog 136 #[Vq bC,.agg #[Vi q,Vi d,Vi a,Vi b,Vi k,Vi h],Vq n,Vq c] w (Hy base bC tab w (exec 31 d a b h k M nx)):=by
 cases hhc:M.hz with
 |false=>
  refine(RQ bC n c q d a b k h M.z false w j.lt.2 x y j.c1 (hhc▸j.c3) r s).mono ?_;rintro e I⟨rfl,l⟩;simp only[exec,Cw,hhc];exact IB j l
 |true=>
  refine(Ow base bC n c M.nO q d a b k h nx M.z false (.slice p.aO M.nO p.cO) (first (M.nO*2) (CR M.K M.V)) w E j.size j.lt.2 x y j.neO j.c8 j.c9 j.free j.mem.obs j.c1 (hhc▸j.c3) r s).mono ?_;rintro e I⟨A,B,rfl,F,D,l⟩;have o:Seen base bC M.nO (.slice p.aO M.nO p.cO) (first (M.nO*2) (CR M.K M.V)) 2 (if M.z==false then 1 else 0) w (B.setCell (Va bC 8) A):=⟨A,B,F,D,by simpa using Below.refl _ _⟩
  obtain⟨g,C,m⟩:=j.seen o;have u:=o.below j.size j.lt.1 j.mem.obs;simp only[exec,Cw,hhc,if_true];cases hq:(M.z==false)with
  |false=>
   rw[hq]at l m;subst l;exact⟨u,j.keepS o,rfl,_,m⟩
  |true=>
   rw[hq]at l m;subst l;exact⟨u.setCell (by simpa using j.lt.1) _,(j.keepS o).trans (m.keepC 9 _),rfl,_,m.next k⟩
theorem OY(j:Core w base bC p nx tab M)(_hk:M.Ok){bW:Nat}(q:Int)(d a b h:Nat)(k:Int)(D:M.nO<=1048576)(r:w.cell? (Va n 0)=some (.func (.func 105) #[] #[]))(x:n<w.heap.size)(s:w.cell? (Va bW 0)=some (.bool true))(y:bW<w.heap.size):
 Calls Tryz.prog 136 #[Vq bC,.agg #[Vi q,Vi d,Vi a,Vi b,Vi k,Vi h],Vq n,Vq bW] w (Hy base bC tab w (exec 32 d a b h k M nx)):=by
 cases hhc:M.hc with
 |false=>
  refine(Qw bC n bW q d a b k h M.c true w j.lt.2 x y j.c2 (hhc▸j.c4) r s).mono ?_;rintro e F⟨rfl,l⟩;simp only[exec,Cw,hhc];exact IB j l
 |true=>
  refine(Oj base bC n bW M.nO q d a b k h nx M.c true (.slice p.aO M.nO p.cO) (first (M.nO*2) (CR M.K M.V)) w D j.size j.lt.2 x y j.neO j.c8 j.c9 j.free j.mem.obs j.c2 (hhc▸j.c4) r s).mono ?_;rintro e F⟨z,A,rfl,E,C,l⟩;have o:Seen base bC M.nO (.slice p.aO M.nO p.cO) (first (M.nO*2) (CR M.K M.V)) 2 (if M.c==true then 1 else 0) w (A.setCell (Va bC 8) z):=⟨z,A,E,C,by simpa using Below.refl _ _⟩
  obtain⟨g,B,m⟩:=j.seen o;have u:=o.below j.size j.lt.1 j.mem.obs;simp only[exec,Cw,hhc,if_true];cases hq:(M.c==true)with
  |false=>
   rw[hq]at l m;subst l;exact⟨u,j.keepS o,rfl,_,m⟩
  |true=>
   rw[hq]at l m;subst l;exact⟨u.setCell (by simpa using j.lt.1) _,(j.keepS o).trans (m.keepC 9 _),rfl,_,m.next k⟩
theorem MU(j:Core w base bC p nx tab M)(_hk:M.Ok){bW:Nat}(q:Int)(d a b h:Nat)(k:Int)(D:M.nO<=1048576)(r:w.cell? (Va n 0)=some (.func (.func 105) #[] #[]))(x:n<w.heap.size)(s:w.cell? (Va bW 0)=some (.bool false))(y:bW<w.heap.size):
 Calls Tryz.prog 136 #[Vq bC,.agg #[Vi q,Vi d,Vi a,Vi b,Vi k,Vi h],Vq n,Vq bW] w (Hy base bC tab w (exec 33 d a b h k M nx)):=by
 cases hhc:M.hc with
 |false=>
  refine(Qw bC n bW q d a b k h M.c false w j.lt.2 x y j.c2 (hhc▸j.c4) r s).mono ?_;rintro e F⟨rfl,l⟩;simp only[exec,Cw,hhc];exact IB j l
 |true=>
  refine(Oj base bC n bW M.nO q d a b k h nx M.c false (.slice p.aO M.nO p.cO) (first (M.nO*2) (CR M.K M.V)) w D j.size j.lt.2 x y j.neO j.c8 j.c9 j.free j.mem.obs j.c2 (hhc▸j.c4) r s).mono ?_;rintro e F⟨z,A,rfl,E,C,l⟩;have o:Seen base bC M.nO (.slice p.aO M.nO p.cO) (first (M.nO*2) (CR M.K M.V)) 2 (if M.c==false then 1 else 0) w (A.setCell (Va bC 8) z):=⟨z,A,E,C,by simpa using Below.refl _ _⟩
  obtain⟨g,B,m⟩:=j.seen o;have u:=o.below j.size j.lt.1 j.mem.obs;simp only[exec,Cw,hhc,if_true];cases hq:(M.c==false)with
  |false=>
   rw[hq]at l m;subst l;exact⟨u,j.keepS o,rfl,_,m⟩
  |true=>
   rw[hq]at l m;subst l;exact⟨u.setCell (by simpa using j.lt.1) _,(j.keepS o).trans (m.keepC 9 _),rfl,_,m.next k⟩
end
theorem Seen.cell{l:Nat}{h:Value}{d:List Value}{e val:Int}{w:World}(p:Seen l J n h d e val w j){a:Addr}(c:a.block<w.heap.size)(k:a.block≠J)(m:some a.block≠h.ownBlock):j.cell? a=w.cell? a:=by
 obtain⟨q,r,_,b,o⟩:=p;rw[o.cell (DY c b.size),World.cell?_setCell_far _ _ _ _ (Ne.symm k)];exact World.cell?_of_block (b.block _ c m)
theorem Seen.size{l:Nat}{h:Value}{d:List Value}{e val:Int}{w:World}(c:Seen l J n h d e val w j):w.heap.size<=j.heap.size:=by
 obtain⟨k,m,_,a,b⟩:=c;have:=b.size;rw[World.size_setCell]at this;exact Nat.le_trans a.size this
theorem MV.setR_setR(M:MV)(d:Nat)(u v:Int):(M.setR d u).setR d v=M.setR d v:=by
 unfold MV.setR;congr 1
 funext i
 by_cases e:i=d<;>simp[e]
section
variable{w:World}{base bC:Nat}{p:Pl}{nx:Int}{tab:List Value}{M:MV}
theorem fM(r:Core w base bC p nx tab M)(C:M.Ok)(I:Int)(d a b h:Nat)(j:Int)(hn:M.nO<=1048576)(hd:d<8)(X:a<8)(Y:b<8):
 Calls Tryz.prog 94 #[Vq bC,.agg #[Vi I,Vi d,Vi a,Vi b,Vi j,Vi h]] w (Hy base bC tab w (exec 9 d a b h j M nx)):=by
 have ac:(d:Int)<8:=AB;have aa:(a:Int)<8:=AB;have ab:(b:Int)<8:=AB;have c0:=r.c0;have ra:=r.reg X;have rb:=r.reg Y;have hC:=r.lt.2;have hR:=r.ltR.2;have pa:=C.reg a X;have pb:=C.reg b Y;have c:=hxy r;have HK:Hid M.Ok:=C;clear r C;obtain⟨J,ae⟩:=pa;obtain⟨L,af⟩:=pb;have ba:=Ih (x:=(M.R a).toNat) AB;have bb:=Ih (x:=(M.R b).toNat) AB;have m:=fun w=>PD (M.R a) w J AB
 have n:=fun w=>PD (M.R b) w L AB
 have Q:Hid _:=m;have S:Hid _:=n;clear m n;go_enter Tryz.func94,Tryz.ntmps94;go_wp2;go_region;go_wp2_with fail;refine(Q _).mono ?_;rintro e N⟨rfl,rfl⟩;go_wp2_with fail;refine(S _).mono ?_;rintro e N⟨rfl,rfl⟩;go_wp2_with fail;have B:Bw w (w.alloc (.cells #[Vi I,Vi d,Vi a,Vi b,Vi j,Vi h] 85)).drew:=(Ah).drew;have l:=c.below B;refine(IJ base bC M.nO (.slice p.aO M.nO p.cO) (first (M.nO*2) (CR M.K M.V)) 3 (Bg (M.R a).toNat*65+Bg (M.R b).toNat) _ hn (by simp;exact Nat.le_succ_of_le c.size) (by simp;omega) l.neO l.c8 (l.free 8) l.mem.obs).mono ?_;rintro e E⟨v',N,rfl,o1,U,A⟩;have s:Seen base bC M.nO (.slice p.aO M.nO p.cO) (first (M.nO*2) (CR M.K M.V)) 3 (Bg (M.R a).toNat*65+Bg (M.R b).toNat) (w.alloc (.cells #[Vi I,Vi d,Vi a,Vi b,Vi j,Vi h] 85)).drew E:=⟨v',N,o1,U,by rw[A];simpa using Below.refl _ _⟩
 obtain⟨g,F,o⟩:=l.seen s;have z:∀k,some k=(Value.slice p.aO M.nO p.cO).ownBlock->k<w.heap.size:=fun k D=>(c.mem.obs.lt k D.symm).2
 have D:some w.heap.size≠(Value.slice p.aO M.nO p.cO).ownBlock:=fun q=>by have:=z _ q;omega
 have i1:E.cell? ⟨w.heap.size,1,none⟩=some (Vi d):=(s.cell (a:=⟨w.heap.size,1,none⟩) AY (by simp;omega) D).trans (by simp[go_sem]);have zI:w.heap.size<E.heap.size:=by have:=s.size;simp at this;omega
 have e0:=o.c0;have rd:=o.reg hd;have fd:=o.freeR d;have zC:=o.lt.2;have zR:=o.ltR.2;have ad:=Ne.symm c.neR;have Z:p.bR≠w.heap.size:=AB;have O:Hid (Below base w E):=(B.mono c.size).trans (s.below (by simp;exact Nat.le_succ_of_le c.size) c.lt.1 l.mem.obs);have y:=hxy ((Keep.below B).trans (l.keepS s));have u:Hid _:=o;clear s l o B o1 U A Q S z D c0 ra rb;go_wp2;go_region;by_cases hz:M.R b=0
 ·go_wp2
  go_end0;simp only[exec];rw[if_pos hz];exact⟨(O.setCell (p:=⟨p.bR,d,none⟩) (by simpa using c.ltR.1) _).drew,y.trans ((u.keepR d 0).trans (Keep.below Al.drew)),rfl,_,(u.setR d 0).below Al.drew⟩
 ·go_wp2
  go_region;go_end0;simp only[exec];rw[if_neg hz];refine⟨((O.setCell (p:=⟨p.bR,d,none⟩) (by simpa using c.ltR.1) _).drew.setCell (p:=⟨p.bR,d,none⟩) (by simpa using c.ltR.1) _).drew,y.trans ((u.keepR d 0).trans ((Keep.below Al.drew).trans ((((u.setR d 0).below Al.drew).keepR d _).trans (Keep.below Al.drew)))),rfl,{p with aO:=some ⟨g,0,none⟩,cO:=F},?_⟩;rw[<-MV.setR_setR _ d 0];exact(((u.setR d 0).below Al.drew).setR d _).below Al.drew
end
end Go.Proofs.YtkckomianknjdaaGreat
