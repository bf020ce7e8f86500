import Derived.Test.YtjoppncopoampaaGreatDoorOfCoreReg
import Derived.BigRegion
import Derived.Test.YtjoppncopoampaaGreatDoorOfBytes
import Derived.Test.YtjoppncopoampaaGreatDoorOfUnitSpec
import Derived.Test.YtjoppncopoampaaGreatDoorOfCoreSel
import Derived.Test.YtjoppncopoampaaGreatDoorOfLen64
set_option maxHeartbeats 1000000
namespace Go.Proofs.YtjoppncopoampaaGreatDoor
open Go.RowKit
variable {L c f n:Nat}{j:World}
theorem Wo{g:Int->Int}{m:Int}(F:∀l w,(callFunc f l).run Tryz.prog w=.ok (.enter f l) w)(B:∀x w,Calls Tryz.prog f #[.int .u64 x,.int .u64 (IntKind.u64.wrap m)] w fun e c=>e=.returned (.int .u64 (g x))/\c=w)(n k r d a o:Nat)(O b J:Int)(R:Nat->Int)(w:World)(hd:d<8)(ha:a<8)(U:n<w.heap.size)(A:k<w.heap.size)(hF:o<w.heap.size)
 (D:w.cell? (Va n 0)=some (Vs k 8 r))(Q:w.cell? (Va k a)=some (.int .u64 (R a)))(S:w.cell? (Va k d)=some (.int .u64 (R d)))(I:w.frozen? (Va k d)=false)
 (E:w.cell? (Va o 0)=some (.func (.func f) #[] #[])):
 Calls Tryz.prog 167 #[Vq n,.agg #[Vi O,Vi d,Vi a,Vi b,Vi m,Vi J],Vq o] w fun e c=>e=.returned (.tuple #[])/\Below w.heap.size (w.setCell (Va k d) (.int .u64 (g (R a)))) c:=by
 replace B:Hid (∀x w,_):=B;have Y:(d:Int)<8:=AB;have X:(a:Int)<8:=AB;go_enter Tryz.func167,Tryz.ntmps167;go_wp2;generalize q:w.alloc (.cells #[Vi O,Vi d,Vi a,Vi b,Vi m,Vi J] 109)=j;have z:Bw w j:=by rw[<-q];exact Ai
 have C:w.heap.size<j.heap.size:=by rw[<-q];simp
 have Z:Below w.heap.size (w.setCell (Va k d) (.int .u64 (g (R a)))) (j.setCell (Va k d) (.int .u64 (g (R a)))):=by
  rw[<-q,World.setCell_alloc_past (hn:=A)];exact BJ.alloc AX _
 have L:j.cell? ⟨w.heap.size,1,none⟩=some (Vi d):=by rw[<-q];simp[go_sem]
 have M:j.cell? ⟨w.heap.size,2,none⟩=some (Vi a):=by rw[<-q];simp[go_sem]
 have N:j.cell? ⟨w.heap.size,4,none⟩=some (Vi m):=by rw[<-q];simp[go_sem]
 have zC:n<j.heap.size:=AB;have zR:k<j.heap.size:=AB;have zF:o<j.heap.size:=AB;have R0:Cb j n 0 (Vs k 8 r):=fun c h=>(h.cell (p:=Va n 0) zC).trans ((z.cell (p:=Va n 0) U).trans D)
 have R1:∀c,Bw j c->c.cell? ⟨w.heap.size,1,none⟩=some (Vi d):=fun c h=>(h.cell (p:=⟨w.heap.size,1,none⟩) C).trans L
 have R2:∀c,Bw j c->c.cell? ⟨w.heap.size,2,none⟩=some (Vi a):=fun c h=>(h.cell (p:=⟨w.heap.size,2,none⟩) C).trans M
 have R3:∀c,Bw j c->c.cell? ⟨w.heap.size,4,none⟩=some (Vi m):=fun c h=>(h.cell (p:=⟨w.heap.size,4,none⟩) C).trans N
 have R4:Cb j o 0 (.func (.func f) #[] #[]):=fun c h=>(h.cell (p:=Va o 0) zF).trans ((z.cell (p:=Va o 0) hF).trans E)
 have R5:Cb j k a (.int .u64 (R a)):=fun c h=>(h.cell (p:=Va k a) zR).trans ((z.cell (p:=Va k a) A).trans Q)
 have wd:j.cell? (Va k d)=some (.int .u64 (R d)):=(z.cell (p:=Va k d) A).trans S;have wf:j.frozen? (Va k d)=false:=(z.frozen (p:=Va k d) A).trans I;clear q L M N D Q S I E;refine BH (T:=fun c=>Bw j c) (s:=22) AV (BJ.drew) (fun hHeld=>?_);refine NU [0,1,2,3,4,5,6,7,8,9,10,11,12,13,14,15,16,17,18,19] ?_;refine Ah (i:=20) rfl AV (fun K y=>?_);go_simp;refine(B.out _ _).mono ?_;rintro e c⟨rfl,rfl⟩;go_wp2_with fail;refine y.out _ _ (BJ.drew) (fun u=>?_);clear y K;refine BR 21 ?_;refine BD rfl AV AV (fun K y=>?_);go_simp;refine y.out _ _ ?_;clear y K;go_end0;exact⟨rfl,Z.drew⟩
section
variable{w:World}{base bC:Nat}{p:Pl}{nx:Int}{tab:List Value}{M:MV}
theorem ED{X:World}{d:Pl}{k:Int}{b:MV}(l:Core X base bC d k tab b)(c:X.heap.size=w.heap.size)(m:Keep w X)(e:Below base w X)(h:base<=w.heap.size)(a:Below w.heap.size X j):Mf base bC tab w (.done b k) (.returned (.tuple #[])) j:=
 ⟨e.trans (a.mono h),m.trans (Keep.below (by rw[c];exact a)),rfl,d,l.below (by rw[c];exact a)⟩
theorem I6(h:Core w base bC p nx tab M)(a:Below w.heap.size w j):Mf base bC tab w (.flt M) (.panicked [{v:=.iface 163 (.agg #[]),recovered:=false}]) j:=
 ⟨a.mono h.size,Keep.below a,rfl,p,nx,h.below a⟩
theorem FC{r k:Int}{B:Nat}{X:World}(a:B<=c)(h:Below B w X):Below B w (flagged X c r k):=
 (((h.setCell (by simpa using a) _).setCell (by simpa using a) _).setCell (by simpa using a) _).setCell (by simpa using a) _
theorem sP(c:Core w base bC p nx tab M)(_hk:M.Ok)(m:Int)(d a b h:Nat)(j:Int)(l:d<8)(k:a<8):
 Calls Tryz.prog 110 #[Vq bC,.agg #[Vi m,Vi d,Vi a,Vi b,Vi j,Vi h]] w (Mf base bC tab w (exec 1 d a b h j M nx)):=by
 refine(ZJ bC p.bR p.cR d a m b j h M.R w l k c.lt.2 c.ltR.2 c.c0 (c.reg k) (c.reg l) (c.freeR d)).mono ?_;rintro e o⟨rfl,n⟩;exact ED (c.setR d _) AX (c.keepR d _) (BJ.setCell (by simpa using c.ltR.1) _) c.size n
theorem nM(c:Core w base bC p nx tab M)(_hk:M.Ok)(l:Int)(d a b h:Nat)(j:Int)(k:d<8):
 Calls Tryz.prog 111 #[Vq bC,.agg #[Vi l,Vi d,Vi a,Vi b,Vi j,Vi h]] w (Mf base bC tab w (exec 2 d a b h j M nx)):=by
 refine(Vk bC p.bR p.cR d l a b j h M.R w k c.lt.2 c.ltR.2 c.c0 (c.reg k) (c.freeR d)).mono ?_;rintro e n⟨rfl,m⟩;exact ED (c.setR d _) AX (c.keepR d _) (BJ.setCell (by simpa using c.ltR.1) _) c.size m
theorem Me{g:Int->Int->Int}(k:∀j w,(callFunc f j).run Tryz.prog w=.ok (.enter f j) w)(z:∀x y w,Calls Tryz.prog f #[.int .u64 x,.int .u64 y] w fun e s=>e=.returned (.int .u64 (g x y))/\s=w)(c:Core w base bC p nx tab M)(r:Int)(d a b h:Nat)(l:Int)(q:d<8)(m:a<8)(o:b<8)(u:w.cell? (Va n 0)=some (.func (.func f) #[] #[]))(B:n<w.heap.size):
 Calls Tryz.prog 164 #[Vq bC,.agg #[Vi r,Vi d,Vi a,Vi b,Vi l,Vi h],Vq n] w (Mf base bC tab w (.done (M.setR d (g (M.R a) (M.R b))) nx)):=by
 refine(Pq k z bC p.bR p.cR d a b n r l h M.R w q m o c.lt.2 c.ltR.2 B c.c0 (c.reg m) (c.reg o) (c.reg q) (c.freeR d) u).mono ?_;rintro e s⟨rfl,A⟩;exact ED (c.setR d _) AX (c.keepR d _) (BJ.setCell (by simpa using c.ltR.1) _) c.size A
theorem Rh{g:Int->Int}{m:Int}(k:∀j w,(callFunc f j).run Tryz.prog w=.ok (.enter f j) w)(u:∀x w,Calls Tryz.prog f #[.int .u64 x,.int .u64 (IntKind.u64.wrap m)] w fun e r=>e=.returned (.int .u64 (g x))/\r=w)(c:Core w base bC p nx tab M)(q:Int)(d a b h:Nat)(o:d<8)(l:a<8)(s:w.cell? (Va n 0)=some (.func (.func f) #[] #[]))(z:n<w.heap.size):
 Calls Tryz.prog 167 #[Vq bC,.agg #[Vi q,Vi d,Vi a,Vi b,Vi m,Vi h],Vq n] w (Mf base bC tab w (.done (M.setR d (g (M.R a))) nx)):=by
 refine(Wo k u bC p.bR p.cR d a n q b h M.R w o l c.lt.2 c.ltR.2 z c.c0 (c.reg l) (c.reg o) (c.freeR d) s).mono ?_;rintro e r⟨rfl,y⟩;exact ED (c.setR d _) AX (c.keepR d _) (BJ.setCell (by simpa using c.ltR.1) _) c.size y
theorem nP(j:Core w base bC p nx tab M)(o:M.Ok)(q:Int)(d a b h:Nat)(k:Int)(n:d<8)(l:a<8)(m:b<8):
 Calls Tryz.prog 123 #[Vq bC,.agg #[Vi q,Vi d,Vi a,Vi b,Vi k,Vi h]] w (Mf base bC tab w (exec 14 d a b h k M nx)):=by
 refine(Vv bC p.bR p.cR d a b q k h M.R M.z M.c M.hz M.hc w n l m j.lt.2 j.ltR.2 j.neR (o.reg a l).1 (o.reg b m).1 j.c0 (j.reg l) (j.reg m) (j.reg n) (j.freeR d) j.c1 j.c2 j.c3 j.c4 j.free).mono ?_;rintro e s⟨rfl,r⟩;exact ED ((j.setR d _).flagged _ _) (by rw[FW];simp) ((j.keepR d _).trans ((j.setR d _).keepF _ _)) (FC j.lt.1 (BJ.setCell (by simpa using j.ltR.1) _)) j.size r
theorem uI(j:Core w base bC p nx tab M)(r:M.Ok)(o:Int)(d a b h:Nat)(k:Int)(q:d<8)(l:a<8)(m:b<8):
 Calls Tryz.prog 124 #[Vq bC,.agg #[Vi o,Vi d,Vi a,Vi b,Vi k,Vi h]] w (Mf base bC tab w (exec 15 d a b h k M nx)):=by
 cases hhc:M.hc with
 |false=>
  refine(Zc bC o d a b k h M.c w j.lt.2 j.c2 (hhc▸j.c4)).mono ?_;rintro e s⟨rfl,n⟩;simp only[exec,hhc];exact I6 j n
 |true=>
  refine(Xu bC p.bR p.cR d a b o k h M.R M.z M.c M.hz w q l m j.lt.2 j.ltR.2 j.neR (r.reg a l).1 (r.reg b m).1 j.c0 (j.reg l) (j.reg m) (j.reg q) (j.freeR d) j.c1 j.c2 j.c3 (hhc▸j.c4) j.free).mono ?_;rintro e s⟨rfl,n⟩;simp only[exec,hhc];exact ED ((j.setR d _).flagged _ _) (by rw[FW];simp) ((j.keepR d _).trans ((j.setR d _).keepF _ _)) (FC j.lt.1 (BJ.setCell (by simpa using j.ltR.1) _)) j.size n
theorem mH(j:Core w base bC p nx tab M)(n:M.Ok)(q:Int)(d a b h:Nat)(k:Int)(o:d<8)(m:a<8)(l:b<8):
 Calls Tryz.prog 125 #[Vq bC,.agg #[Vi q,Vi d,Vi a,Vi b,Vi k,Vi h]] w (Mf base bC tab w (exec 16 d a b h k M nx)):=by
 refine(WN bC p.bR p.cR d a b q k h M.R M.z M.c M.hz M.hc w o m l j.lt.2 j.ltR.2 j.neR (n.reg a m).1 (n.reg b l).1 (n.reg b l).2 j.c0 (j.reg m) (j.reg l) (j.reg o) (j.freeR d) j.c1 j.c2 j.c3 j.c4 j.free).mono ?_;rintro e s⟨rfl,r⟩;exact ED ((j.flagged _ _).setR d _) (by rw[World.size_setCell,FW]) ((j.keepF _ _).trans ((j.flagged _ _).keepR d _)) ((FC j.lt.1 BJ).setCell (by simpa using j.ltR.1) _) j.size r
theorem tV(j:Core w base bC p nx tab M)(n:M.Ok)(o:Int)(d a b h:Nat)(k:Int)(m:a<8)(l:b<8):
 Calls Tryz.prog 126 #[Vq bC,.agg #[Vi o,Vi d,Vi a,Vi b,Vi k,Vi h]] w (Mf base bC tab w (exec 17 d a b h k M nx)):=by
 refine(YZ bC p.bR p.cR a b o d k h M.R M.z M.c M.hz M.hc w m l j.lt.2 j.ltR.2 j.neR (n.reg a m).1 (n.reg b l).1 (n.reg b l).2 j.c0 (j.reg m) (j.reg l) j.c1 j.c2 j.c3 j.c4 j.free).mono ?_;rintro e r⟨rfl,q⟩;exact ED (j.flagged _ _) FW (j.keepF _ _) (FC j.lt.1 BJ) j.size q
theorem mG(j:Core w base bC p nx tab M)(n:M.Ok)(m:Int)(d a b h:Nat)(k:Int)(l:a<8):
 Calls Tryz.prog 127 #[Vq bC,.agg #[Vi m,Vi d,Vi a,Vi b,Vi k,Vi h]] w (Mf base bC tab w (exec 18 d a b h k M nx)):=by
 refine(VS bC p.bR p.cR a m d b k h M.R M.z M.c M.hz M.hc w l j.lt.2 j.ltR.2 j.neR (n.reg a l).1 j.c0 (j.reg l) j.c1 j.c2 j.c3 j.c4 j.free).mono ?_;rintro e q⟨rfl,o⟩;exact ED (j.flagged _ _) FW (j.keepF _ _) (FC j.lt.1 BJ) j.size o
theorem mh(c:Core w base bC p nx tab M)(_hk:M.Ok)(l:Int)(d a b h:Nat)(j:Int)(r:d<8)(o:a<8)(q:b<8)(m:w.cell? (Va n 0)=some (.func (.func 129) #[] #[]))(s:n<w.heap.size):
 Calls Tryz.prog 170 #[Vq bC,.agg #[Vi l,Vi d,Vi a,Vi b,Vi j,Vi h],Vq n] w (Mf base bC tab w (exec 19 d a b h j M nx)):=by
 cases hhc:M.hz with
 |false=>
  refine(oZ bC n l d a b j h M.z w c.lt.2 s c.c1 (hhc▸c.c3) m).mono ?_;rintro e u⟨rfl,k⟩;simp only[exec,hhc];exact I6 c k
 |true=>
  refine(jV bC p.bR p.cR d a b n l j h M.R M.z w r o q c.lt.2 c.ltR.2 s c.c0 (c.reg o) (c.reg q) (c.reg r) (c.freeR d) c.c1 (hhc▸c.c3) m).mono ?_;rintro e u⟨rfl,k⟩;simp only[exec,hhc];exact ED (c.setR d _) AX (c.keepR d _) (BJ.setCell (by simpa using c.ltR.1) _) c.size k
theorem kg(j:Core w base bC p nx tab M)(_hk:M.Ok)(m:Int)(d a b h:Nat)(k:Int)(s:d<8)(q:a<8)(r:b<8)(o:w.cell? (Va n 0)=some (.func (.func 130) #[] #[]))(u:n<w.heap.size):
 Calls Tryz.prog 170 #[Vq bC,.agg #[Vi m,Vi d,Vi a,Vi b,Vi k,Vi h],Vq n] w (Mf base bC tab w (exec 20 d a b h k M nx)):=by
 cases hhc:M.hc with
 |false=>
  refine(oo bC n m d a b k h M.c w j.lt.2 u j.c2 (hhc▸j.c4) o).mono ?_;rintro e x⟨rfl,l⟩;simp only[exec,hhc];exact I6 j l
 |true=>
  refine(Zb bC p.bR p.cR d a b n m k h M.R M.c w s q r j.lt.2 j.ltR.2 u j.c0 (j.reg q) (j.reg r) (j.reg s) (j.freeR d) j.c2 (hhc▸j.c4) o).mono ?_;rintro e x⟨rfl,l⟩;simp only[exec,hhc];exact ED (j.setR d _) AX (j.keepR d _) (BJ.setCell (by simpa using j.ltR.1) _) j.size l
theorem sS(c:Core w base bC p nx tab M)(_hk:M.Ok)(k:Int)(d a b h:Nat)(j:Int):
 Calls Tryz.prog 135 #[Vq bC,.agg #[Vi k,Vi d,Vi a,Vi b,Vi j,Vi h]] w (Mf base bC tab w (exec 29 d a b h j M nx)):=by
 refine(Yv bC k d a b j h nx w c.lt.2 c.c9 (c.free 9)).mono ?_;rintro e m⟨rfl,l⟩;exact ED (c.next _) AX (c.keepC 9 _) (BJ.setCell (by simpa using c.lt.1) _) c.size l
theorem mF(c:Core w base bC p nx tab M)(_hk:M.Ok)(k:Int)(d a b h:Nat)(j:Int):
 Calls Tryz.prog 137 #[Vq bC,.agg #[Vi k,Vi d,Vi a,Vi b,Vi j,Vi h]] w (Mf base bC tab w (exec 34 d a b h j M nx)):=by
 refine(Wd bC k d a b j h nx M.pc M.st w c.lt.2 c.c6 c.c7 c.c9 (c.free 7) (c.free 9)).mono ?_;rintro e m⟨rfl,l⟩;exact ED ((c.setSt 1).next _) AX ((c.keepC 7 _).trans ((c.setSt 1).keepC 9 _)) ((BJ.setCell (by simpa using c.lt.1) _).setCell (by simpa using c.lt.1) _) c.size l
theorem QK(c:Core w base bC p nx tab M)(_hk:M.Ok)(o:Int)(d a b h:Nat)(j:Int)(D:M.nO<=1048576)(q:w.cell? (Va n 0)=some (.func (.func 129) #[] #[]))(u:n<w.heap.size)(r:w.cell? (Va L 0)=some (.bool true))(x:L<w.heap.size):
 Calls Tryz.prog 175 #[Vq bC,.agg #[Vi o,Vi d,Vi a,Vi b,Vi j,Vi h],Vq n,Vq L] w (Mf base bC tab w (exec 30 d a b h j M nx)):=by
 cases hhc:M.hz with
 |false=>
  refine(UE bC n L o d a b j h M.z true w c.lt.2 u x c.c1 (hhc▸c.c3) q r).mono ?_;rintro e F⟨rfl,k⟩;simp only[exec,Da,hhc];exact I6 c k
 |true=>
  refine(QW base bC n L M.nO o d a b j h nx M.z true (.slice p.aO M.nO p.cO) (first (M.nO*2) (Dg M.K M.V)) w D c.size c.lt.2 u x c.neO c.c8 c.c9 c.free c.mem.obs c.c1 (hhc▸c.c3) q r).mono ?_;rintro e F⟨y,A,rfl,E,C,k⟩;have m:Seen base bC M.nO (.slice p.aO M.nO p.cO) (first (M.nO*2) (Dg M.K M.V)) 2 (if M.z==true then 1 else 0) w (A.setCell (Va bC 8) y):=⟨y,A,E,C,by simpa using Below.refl _ _⟩
  obtain⟨g,B,l⟩:=c.seen m;have s:=m.below c.size c.lt.1 c.mem.obs;simp only[exec,Da,hhc,if_true];cases hq:(M.z==true)with
  |false=>
   rw[hq]at k l;subst k;exact⟨s,c.keepS m,rfl,_,l⟩
  |true=>
   rw[hq]at k l;subst k;exact⟨s.setCell (by simpa using c.lt.1) _,(c.keepS m).trans (l.keepC 9 _),rfl,_,l.next j⟩
theorem OT(c:Core w base bC p nx tab M)(_hk:M.Ok)(o:Int)(d a b h:Nat)(j:Int)(D:M.nO<=1048576)(q:w.cell? (Va n 0)=some (.func (.func 129) #[] #[]))(u:n<w.heap.size)(r:w.cell? (Va L 0)=some (.bool false))(x:L<w.heap.size):
 Calls Tryz.prog 175 #[Vq bC,.agg #[Vi o,Vi d,Vi a,Vi b,Vi j,Vi h],Vq n,Vq L] w (Mf base bC tab w (exec 31 d a b h j M nx)):=by
 cases hhc:M.hz with
 |false=>
  refine(UE bC n L o d a b j h M.z false w c.lt.2 u x c.c1 (hhc▸c.c3) q r).mono ?_;rintro e F⟨rfl,k⟩;simp only[exec,Da,hhc];exact I6 c k
 |true=>
  refine(QW base bC n L M.nO o d a b j h nx M.z false (.slice p.aO M.nO p.cO) (first (M.nO*2) (Dg M.K M.V)) w D c.size c.lt.2 u x c.neO c.c8 c.c9 c.free c.mem.obs c.c1 (hhc▸c.c3) q r).mono ?_;rintro e F⟨y,A,rfl,E,C,k⟩;have m:Seen base bC M.nO (.slice p.aO M.nO p.cO) (first (M.nO*2) (Dg M.K M.V)) 2 (if M.z==false then 1 else 0) w (A.setCell (Va bC 8) y):=⟨y,A,E,C,by simpa using Below.refl _ _⟩
  obtain⟨g,B,l⟩:=c.seen m;have s:=m.below c.size c.lt.1 c.mem.obs;simp only[exec,Da,hhc,if_true];cases hq:(M.z==false)with
  |false=>
   rw[hq]at k l;subst k;exact⟨s,c.keepS m,rfl,_,l⟩
  |true=>
   rw[hq]at k l;subst k;exact⟨s.setCell (by simpa using c.lt.1) _,(c.keepS m).trans (l.keepC 9 _),rfl,_,l.next j⟩
theorem QB(j:Core w base bC p nx tab M)(_hk:M.Ok)(q:Int)(d a b h:Nat)(k:Int)(D:M.nO<=1048576)(r:w.cell? (Va n 0)=some (.func (.func 130) #[] #[]))(x:n<w.heap.size)(s:w.cell? (Va L 0)=some (.bool true))(y:L<w.heap.size):
 Calls Tryz.prog 175 #[Vq bC,.agg #[Vi q,Vi d,Vi a,Vi b,Vi k,Vi h],Vq n,Vq L] w (Mf base bC tab w (exec 32 d a b h k M nx)):=by
 cases hhc:M.hc with
 |false=>
  refine(U0 bC n L q d a b k h M.c true w j.lt.2 x y j.c2 (hhc▸j.c4) r s).mono ?_;rintro e F⟨rfl,l⟩;simp only[exec,Da,hhc];exact I6 j l
 |true=>
  refine(QV base bC n L M.nO q d a b k h nx M.c true (.slice p.aO M.nO p.cO) (first (M.nO*2) (Dg M.K M.V)) w D j.size j.lt.2 x y j.neO j.c8 j.c9 j.free j.mem.obs j.c2 (hhc▸j.c4) r s).mono ?_;rintro e F⟨z,A,rfl,E,C,l⟩;have o:Seen base bC M.nO (.slice p.aO M.nO p.cO) (first (M.nO*2) (Dg M.K M.V)) 2 (if M.c==true then 1 else 0) w (A.setCell (Va bC 8) z):=⟨z,A,E,C,by simpa using Below.refl _ _⟩
  obtain⟨g,B,m⟩:=j.seen o;have u:=o.below j.size j.lt.1 j.mem.obs;simp only[exec,Da,hhc,if_true];cases hq:(M.c==true)with
  |false=>
   rw[hq]at l m;subst l;exact⟨u,j.keepS o,rfl,_,m⟩
  |true=>
   rw[hq]at l m;subst l;exact⟨u.setCell (by simpa using j.lt.1) _,(j.keepS o).trans (m.keepC 9 _),rfl,_,m.next k⟩
theorem PE(j:Core w base bC p nx tab M)(_hk:M.Ok)(q:Int)(d a b h:Nat)(k:Int)(D:M.nO<=1048576)(r:w.cell? (Va n 0)=some (.func (.func 130) #[] #[]))(x:n<w.heap.size)(s:w.cell? (Va L 0)=some (.bool false))(y:L<w.heap.size):
 Calls Tryz.prog 175 #[Vq bC,.agg #[Vi q,Vi d,Vi a,Vi b,Vi k,Vi h],Vq n,Vq L] w (Mf base bC tab w (exec 33 d a b h k M nx)):=by
 cases hhc:M.hc with
 |false=>
  refine(U0 bC n L q d a b k h M.c false w j.lt.2 x y j.c2 (hhc▸j.c4) r s).mono ?_;rintro e F⟨rfl,l⟩;simp only[exec,Da,hhc];exact I6 j l
 |true=>
  refine(QV base bC n L M.nO q d a b k h nx M.c false (.slice p.aO M.nO p.cO) (first (M.nO*2) (Dg M.K M.V)) w D j.size j.lt.2 x y j.neO j.c8 j.c9 j.free j.mem.obs j.c2 (hhc▸j.c4) r s).mono ?_;rintro e F⟨z,A,rfl,E,C,l⟩;have o:Seen base bC M.nO (.slice p.aO M.nO p.cO) (first (M.nO*2) (Dg M.K M.V)) 2 (if M.c==false then 1 else 0) w (A.setCell (Va bC 8) z):=⟨z,A,E,C,by simpa using Below.refl _ _⟩
  obtain⟨g,B,m⟩:=j.seen o;have u:=o.below j.size j.lt.1 j.mem.obs;simp only[exec,Da,hhc,if_true];cases hq:(M.c==false)with
  |false=>
   rw[hq]at l m;subst l;exact⟨u,j.keepS o,rfl,_,m⟩
  |true=>
   rw[hq]at l m;subst l;exact⟨u.setCell (by simpa using j.lt.1) _,(j.keepS o).trans (m.keepC 9 _),rfl,_,m.next k⟩
end
theorem Seen.cell{l:Nat}{h:Value}{d:List Value}{b val:Int}{w:World}(q:Seen l c n h d b val w j){a:Addr}(k:a.block<w.heap.size)(m:a.block≠c)(o:some a.block≠h.ownBlock):j.cell? a=w.cell? a:=by
 obtain⟨r,s,_,e,p⟩:=q;rw[p.cell (Ey k e.size),World.cell?_setCell_far _ _ _ _ (Ne.symm m)];exact World.cell?_of_block (e.block _ k o)
theorem Seen.size{l:Nat}{h:Value}{d:List Value}{b val:Int}{w:World}(k:Seen l c n h d b val w j):w.heap.size<=j.heap.size:=by
 obtain⟨m,o,_,a,e⟩:=k;have:=e.size;rw[World.size_setCell]at this;exact Nat.le_trans a.size this
theorem MV.setR_setR(M:MV)(d:Nat)(u v:Int):(M.setR d u).setR d v=M.setR d v:=by
 unfold MV.setR;congr 1
 funext i
 by_cases e:i=d<;>simp[e]
section
variable{w:World}{base bC:Nat}{p:Pl}{nx:Int}{tab:List Value}{M:MV}
theorem uU(r:Core w base bC p nx tab M)(C:M.Ok)(I:Int)(d a b h:Nat)(j:Int)(hn:M.nO<=1048576)(hd:d<8)(X:a<8)(Y:b<8):
 Calls Tryz.prog 119 #[Vq bC,.agg #[Vi I,Vi d,Vi a,Vi b,Vi j,Vi h]] w (Mf base bC tab w (exec 9 d a b h j M nx)):=by
 have ac:(d:Int)<8:=AB;have aa:(a:Int)<8:=AB;have ab:(b:Int)<8:=AB;have c0:=r.c0;have ra:=r.reg X;have rb:=r.reg Y;have hC:=r.lt.2;have hR:=r.ltR.2;have pa:=C.reg a X;have pb:=C.reg b Y;have c:=hxy r;have HK:Hid M.Ok:=C;clear r C;obtain⟨J,ae⟩:=pa;obtain⟨L,af⟩:=pb;have ba:=Ub (x:=(M.R a).toNat) AB;have bb:=Ub (x:=(M.R b).toNat) AB;have m:=fun w=>MZ (M.R a) w J AB
 have n:=fun w=>MZ (M.R b) w L AB
 have Q:Hid _:=m;have S:Hid _:=n;clear m n;go_enter Tryz.func119,Tryz.ntmps119;go_wp2;go_region;go_wp2_with fail;refine(Q _).mono ?_;rintro e N⟨rfl,rfl⟩;go_wp2_with fail;refine(S _).mono ?_;rintro e N⟨rfl,rfl⟩;go_wp2_with fail;have B:Bw w (w.alloc (.cells #[Vi I,Vi d,Vi a,Vi b,Vi j,Vi h] 109)).drew:=(Ai).drew;have l:=c.below B;refine(I7 base bC M.nO (.slice p.aO M.nO p.cO) (first (M.nO*2) (Dg M.K M.V)) 3 (DZ (M.R a).toNat*65+DZ (M.R b).toNat) _ hn (by simp;exact Nat.le_succ_of_le c.size) (by simp;omega) l.neO l.c8 (l.free 8) l.mem.obs).mono ?_;rintro e E⟨v',N,rfl,o1,U,A⟩;have s:Seen base bC M.nO (.slice p.aO M.nO p.cO) (first (M.nO*2) (Dg M.K M.V)) 3 (DZ (M.R a).toNat*65+DZ (M.R b).toNat) (w.alloc (.cells #[Vi I,Vi d,Vi a,Vi b,Vi j,Vi h] 109)).drew E:=⟨v',N,o1,U,by rw[A];simpa using Below.refl _ _⟩
 obtain⟨g,F,o⟩:=l.seen s;have z:∀k,some k=(Value.slice p.aO M.nO p.cO).ownBlock->k<w.heap.size:=fun k D=>(c.mem.obs.lt k D.symm).2
 have D:some w.heap.size≠(Value.slice p.aO M.nO p.cO).ownBlock:=fun q=>by have:=z _ q;omega
 have i1:E.cell? ⟨w.heap.size,1,none⟩=some (Vi d):=(s.cell (a:=⟨w.heap.size,1,none⟩) AX (by simp;omega) D).trans (by simp[go_sem]);have zI:w.heap.size<E.heap.size:=by have:=s.size;simp at this;omega
 have e0:=o.c0;have rd:=o.reg hd;have fd:=o.freeR d;have zC:=o.lt.2;have zR:=o.ltR.2;have ad:=Ne.symm c.neR;have Z:p.bR≠w.heap.size:=AB;have O:Hid (Below base w E):=(B.mono c.size).trans (s.below (by simp;exact Nat.le_succ_of_le c.size) c.lt.1 l.mem.obs);have y:=hxy ((Keep.below B).trans (l.keepS s));have u:Hid _:=o;clear s l o B o1 U A Q S z D c0 ra rb;go_wp2;go_region;by_cases hz:M.R b=0
 ·go_wp2
  go_end0;simp only[exec];rw[if_pos hz];exact⟨(O.setCell (p:=⟨p.bR,d,none⟩) (by simpa using c.ltR.1) _).drew,y.trans ((u.keepR d 0).trans (Keep.below BJ.drew)),rfl,_,(u.setR d 0).below BJ.drew⟩
 ·go_wp2
  go_region;go_end0;simp only[exec];rw[if_neg hz];refine⟨((O.setCell (p:=⟨p.bR,d,none⟩) (by simpa using c.ltR.1) _).drew.setCell (p:=⟨p.bR,d,none⟩) (by simpa using c.ltR.1) _).drew,y.trans ((u.keepR d 0).trans ((Keep.below BJ.drew).trans ((((u.setR d 0).below BJ.drew).keepR d _).trans (Keep.below BJ.drew)))),rfl,{p with aO:=some ⟨g,0,none⟩,cO:=F},?_⟩;rw[<-MV.setR_setR _ d 0];exact(((u.setR d 0).below BJ.drew).setR d _).below BJ.drew
end
end Go.Proofs.YtjoppncopoampaaGreatDoor
