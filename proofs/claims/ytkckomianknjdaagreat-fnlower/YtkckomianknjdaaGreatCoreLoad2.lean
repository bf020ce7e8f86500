import Derived.Test.YtkckomianknjdaaGreatOfCoreF
import Derived.Test.YtkckomianknjdaaGreatOfCoreDiv
import Derived.Test.YtkckomianknjdaaGreatOfBytes
set_option maxHeartbeats 1000000
namespace Go.Proofs.YtkckomianknjdaaGreat
open Go.RowKit
variable {c l n:Nat}{w:World}
def Such(S:World->Prop)(w:World):Prop:=S w
theorem BD.ne{b g:Nat}{v:Value}{B:Nat}(h:BD w b v B){e s Y:Nat}{d:List Value}(k:w.ownsRow l e s (Vs g n Y) n d)(j:e≠B):b≠g:=by
 rintro rfl;obtain⟨c,a⟩:=Rp k;rw[h]at a;simp only[Option.some.injEq,Obj.cells.injEq]at a;exact j a.2.1.symm
theorem BD.neOwn{b:Nat}{v:Value}{B:Nat}(h:BD w b v B){e s:Nat}{u:Value}{d:List Value}(m:w.ownsRow l e s u n d)(k:e≠B):some b≠u.ownBlock:=by
 intro q;rcases m.2 with⟨rfl,_⟩|⟨g,c,j,rfl,_,a,_⟩
 ·simp[Value.ownBlock]at q
 ·simp only[Value.ownBlock,Option.some.injEq]at q
  subst q;rw[h]at a;simp only[Option.some.injEq,Obj.cells.injEq]at a;exact k a.2.1.symm
theorem MV.pokeN_len(M:MV)(h o:Nat)(v:Int):∀k,(M.pokeN h o v k).nH=M.nH/\(∀i,((M.pokeN h o v k).Hp i).len=(M.Hp i).len)/\(M.pokeN h o v k).R=M.R
 |0=>⟨rfl,fun _=>rfl,rfl⟩
 |k+1=>by
  obtain⟨a,b,c⟩:=MV.pokeN_len M h o v k;refine⟨a,fun i=>?_,c⟩;rw[<-b i];show(((M.pokeN h o v k).poke h (o+k) (v/2^(8*k)%256)).Hp i).len=_;unfold MV.poke;by_cases e:i=h<;>simp[e]
theorem Core.heapAt{J:Nat}{p:Pl}{O:Int}{B:List Value}{M:MV}(d:Core w l J p O B M){h:Nat}(q:h<M.nH):∃c,p.aH=some ⟨c,0,none⟩/\J≠c/\some c≠(Value.slice p.aO M.nO p.cO).ownBlock/\At w c 0 (M.nH*3) (CO (place M.Hp p.blk p.cap)):=by
 have a:=d.mem.heaps;obtain⟨k,n⟩:∃k,M.nH=k+1:=⟨M.nH-1,AB⟩
 have b:=a;rw[n]at b;obtain⟨g,m,j⟩:=Ht b;simp only[Value.slice.injEq]at j;obtain⟨e,_,o⟩:=j;rw[e]at a;refine⟨g,e,?_,?_,(ET a).2.2.2.at⟩
 ·have:=CU (Ae d.core a Aa);simpa[Value.ownBlock]using this
 ·exact CU (Ae a d.mem.obs Aa)
section
variable{w:World}{base bC:Nat}{p:Pl}{nx:Int}{tab:List Value}{M:MV}
theorem VZ(J:Core w base bC p nx tab M)(hk:M.Ok)(op:Int)(d a b h:Nat)(B r:Int)(l:Nat)(av:1<=l)(aw:l<=8)(hd:d<8)(hh:h<M.nH)
 (kF:BD w n (.func (.func 107) #[] #[]) 186)(kW:BD w c (.int .u64 l) 74)
 (Z:∀m,Below w.heap.size w m->Calls Tryz.prog 107 #[Vq bC,.agg #[Vi op,Vi d,Vi a,Vi b,Vi B,Vi h]] m fun e aa=>e=.returned (.int .u64 r)/\Below m.heap.size m aa)(hl:lies (M.Hp h).base r l (M.Hp h).len=true)
 (z:∀m,Below w.heap.size w m->Calls Tryz.prog 134 #[Vq bC,Vi h,.int .u64 r,.int .u64 l,.bool false] m fun e aa=>e=.returned (.slice (some ⟨p.blk h,(r-(M.Hp h).base).toNat,none⟩) l (p.cap h-(r-(M.Hp h).base).toNat))/\Seen base bC M.nO (.slice p.aO M.nO p.cO) (first (M.nO*2) (CR M.K M.V)) 1 r m aa):
 Calls Tryz.prog 133 #[Vq bC,.agg #[Vi op,Vi d,Vi a,Vi b,Vi B,Vi h],Vq n,Vq c] w (Hy base bC tab w (.done ((M.see 1 r).setR d (Eu (M.Hp h).dat (r-(M.Hp h).base).toNat l)) nx)):=by
 have hF:=kF.lt;have hW:=kW.lt;have cF:=kF.cell;have cW:=kW.cell;have af:=kF.ne J.core Aa;have ag:=kW.ne J.core Aa;have ah:=kF.neOwn J.mem.obs Aa;have ai:=kW.neOwn J.mem.obs Aa;have hC:=J.lt.2;have al:=J.neR;have ax:=J.ltR.2;have nI:some w.heap.size≠(Value.slice p.aO M.nO p.cO).ownBlock:=fun q=>by have:=(J.mem.obs.lt _ q.symm).2;omega
 simp only[lies,Bool.and_eq_true,decide_eq_true_eq]at hl;have l1:=hl;have an:(d:Int)<8:=AB;obtain⟨o,ho⟩:=BG ((r-(M.Hp h).base).toNat);rw[ho]at z;rw[ho];have ap:o+l<=(M.Hp h).len:=AB;have aj:=(hk.heap h hh).2.2.1;have Y:=hxy (hk.dat h hh);have am:=hk.reg d hd;have H0:=hxy J;have s:=H0.out;have HK:Hid M.Ok:=hk;have ak:=hxy kF;clear J hk kF kW l1 ho;go_enter Tryz.func133,Tryz.ntmps133;go_wp2_with fail;generalize L:w.alloc (.cells #[Vi op,Vi d,Vi a,Vi b,Vi B,Vi h] 85)=wb;have xb:Bw w wb:=by rw[<-L];exact Ah
 have xy:w.heap.size<wb.heap.size:=by rw[<-L];simp
 obtain⟨S,u⟩:∃S:World->Prop,S=fun m=>m.cell? ⟨w.heap.size,0,none⟩=some (Vi op)/\m.cell? ⟨w.heap.size,1,none⟩=some (Vi d)/\m.cell? ⟨w.heap.size,2,none⟩=some (Vi a)/\m.cell? ⟨w.heap.size,3,none⟩=some (Vi b)/\m.cell? ⟨w.heap.size,4,none⟩=some (Vi B)/\m.cell? ⟨w.heap.size,5,none⟩=some (Vi h)/\m.cell? (Va n 0)=some (.func (.func 107) #[] #[])/\m.cell? (Va c 0)=some (.int .u64 l):=⟨_,rfl⟩
 have A:∀m,m.cell? ⟨w.heap.size,0,none⟩=some (Vi op)->m.cell? ⟨w.heap.size,1,none⟩=some (Vi d)->m.cell? ⟨w.heap.size,2,none⟩=some (Vi a)->m.cell? ⟨w.heap.size,3,none⟩=some (Vi b)->m.cell? ⟨w.heap.size,4,none⟩=some (Vi B)->m.cell? ⟨w.heap.size,5,none⟩=some (Vi h)->m.cell? (Va n 0)=some (.func (.func 107) #[] #[])->m.cell? (Va c 0)=some (.int .u64 l)->Such S m:=by unfold Such;rw[u];exact fun m a0 a1 a2 a3 a4 a5 a6 a7=>⟨a0,a1,a2,a3,a4,a5,a6,a7⟩
 have I:∀m,Bw wb m->Such S m:=fun m h=>A m ((h.cell (p:=⟨w.heap.size,0,none⟩) xy).trans (by rw[<-L];simp[go_sem])) ((h.cell (p:=⟨w.heap.size,1,none⟩) xy).trans (by rw[<-L];simp[go_sem])) ((h.cell (p:=⟨w.heap.size,2,none⟩) xy).trans (by rw[<-L];simp[go_sem])) ((h.cell (p:=⟨w.heap.size,3,none⟩) xy).trans (by rw[<-L];simp[go_sem])) ((h.cell (p:=⟨w.heap.size,4,none⟩) xy).trans (by rw[<-L];simp[go_sem])) ((h.cell (p:=⟨w.heap.size,5,none⟩) xy).trans (by rw[<-L];simp[go_sem])) ((h.cell (p:=Va n 0) (by simp;omega)).trans ((xb.cell (p:=Va n 0) hF).trans cF)) ((h.cell (p:=Va c 0) (by simp;omega)).trans ((xb.cell (p:=Va c 0) hW).trans cW))
 have j0:∀m,Such S m->m.cell? ⟨w.heap.size,0,none⟩=some (Vi op):=fun m h=>by unfold Such at h;rw[u]at h;exact h.1
 have j1:∀m,Such S m->m.cell? ⟨w.heap.size,1,none⟩=some (Vi d):=fun m h=>by unfold Such at h;rw[u]at h;exact h.2.1
 have j2:∀m,Such S m->m.cell? ⟨w.heap.size,2,none⟩=some (Vi a):=fun m h=>by unfold Such at h;rw[u]at h;exact h.2.2.1
 have j3:∀m,Such S m->m.cell? ⟨w.heap.size,3,none⟩=some (Vi b):=fun m h=>by unfold Such at h;rw[u]at h;exact h.2.2.2.1
 have j4:∀m,Such S m->m.cell? ⟨w.heap.size,4,none⟩=some (Vi B):=fun m h=>by unfold Such at h;rw[u]at h;exact h.2.2.2.2.1
 have j5:∀m,Such S m->m.cell? ⟨w.heap.size,5,none⟩=some (Vi h):=fun m h=>by unfold Such at h;rw[u]at h;exact h.2.2.2.2.2.1
 have R0:∀m,Such S m->m.cell? (Va n 0)=some (.func (.func 107) #[] #[]):=fun m h=>by unfold Such at h;rw[u]at h;exact h.2.2.2.2.2.2.1
 have R1:∀m,Such S m->m.cell? (Va c 0)=some (.int .u64 l):=fun m h=>by unfold Such at h;rw[u]at h;exact h.2.2.2.2.2.2.2
 have E:=hxy A;have x:=hxy I;have X:Hid _:=Z;have D:Hid _:=z;clear L cF cW u A I Z z;refine wp_region_held_drew (S:=Such S) Ab (x _ (Al.drew)) (fun hHeld=>?_);refine lM [0,1,2,3,4,5,7] ?_;refine wpAnyH_ready (rs:=[6]) Ab AY ?_;refine AllReadyH.cons rfl (fun K hK=>?_) AllReadyH.nil;go_simp;refine(X _ (xb.trans (Al.drew.mono (Nat.le_of_lt xy)))).mono ?_;rintro e C⟨rfl,R⟩;go_wp2_with fail;refine hK.out _ _ (x _ (Al.drew.trans R)) (fun N=>?_);clear hK K;refine wpAnyH_ready (rs:=[8]) Ab AY ?_;refine AllReadyH.cons rfl (fun K hK=>?_) AllReadyH.nil;go_simp;have xa:Bw w C:=xb.trans ((Al.drew.trans R).mono (Nat.le_of_lt xy));refine(D _ xa).mono ?_;rintro e w2⟨rfl,hs⟩;have ya:wb.heap.size<=C.heap.size:=by have:=R.size;simpa using this
 have Q:=Seen.of_below xa hs;have hI:∀k,w2.cell? ⟨w.heap.size,k,none⟩=C.cell? ⟨w.heap.size,k,none⟩:=fun k=>hs.cell (a:=⟨w.heap.size,k,none⟩) (by simp;omega) (by simp;omega) nI
 have hJ:∀b,b<w.heap.size->b≠bC->some b≠(Value.slice p.aO M.nO p.cO).ownBlock->∀k,w2.cell? (Va b k)=C.cell? (Va b k):=fun b h1 h2 h3 k=>hs.cell (a:=Va b k) (by simp;omega) h2 h3
 have zI:w.heap.size<w2.heap.size:=by have:=hs.size;omega
 go_wp2_with fail;refine hK.out _ _ (E w2 ((hI 0).trans (j0 C (by assumption))) ((hI 1).trans (j1 C (by assumption))) ((hI 2).trans (j2 C (by assumption))) ((hI 3).trans (j3 C (by assumption))) ((hI 4).trans (j4 C (by assumption))) ((hI 5).trans (j5 C (by assumption))) ((hJ n hF af ah 0).trans (R0 C (by assumption))) ((hJ c hW ag ai 0).trans (R1 C (by assumption)))) (fun O=>?_);clear hK K;refine Ao 9 ?_;refine wpAnyH_done Ab ?_ _;have ab:=s.seen Q;obtain⟨g,cp,U⟩:=ab;have e0:=U.c0;have rd:=U.reg hd;have fd:=U.freeR d;have zC:=U.lt.2;have zR:=U.ltR.2;have i1:w2.cell? ⟨w.heap.size,1,none⟩=some (Vi d):=j1 w2 (by assumption);have F:=ET (U.mem.data h hh);have zD:=F.2.2.2.lt;have HD:Hid (∀k,k<l->w2.cell? ⟨p.blk h,o+k,none⟩=some (.int .u8 ((M.Hp h).dat (o+k)))):=fun k hk=>F.2.2.2.cell (by show o+k<(M.Hp h).len;omega)
 have HB:=hxy (Q.below s.size s.lt.1 s.mem.obs);have ac:=hxy (s.keepS Q);have H2:Hid _:=U;clear Q U F hs hI hJ hHeld R N O j0 j1 j2 j3 j4 j5 R0 R1 D X x E xa ya xb;go_wp2;go_loop [7,21](fun v i=>∃k:Nat,k<=l/\i=Vi k/\v=.int .u64 (Eu (M.Hp h).dat o k))(fun _ i=>l-(intOf i).toNat)
 case atStart=>exact⟨0,Nat.zero_le _,rfl,rfl⟩
 case round=>
  obtain⟨k,ao,rfl,rfl⟩:=hrel;by_cases ad:k<l
  ·have g0:=HD.out k ad
   have hr:=FE (M.Hp h).dat o k fun j hj=>Y.out (o+j) AB
   have hy:=Y.out (o+k) AB;have ae:Hid (bits BinOp.or IntKind.u64 (Eu (M.Hp h).dat o k) ((M.Hp h).dat (o+k)*2^(8*k))=Eu (M.Hp h).dat o (k+1)):=Wm AB hr.1 hr.2 hy.1 hy.2;have au:=Lp (y:=(M.Hp h).dat (o+k)) (k:=k) AB hy.1 hy.2;have ar:Hid (((M.Hp h).dat (o+k))*2^(8*k)=((M.Hp h).dat (o+k))*2^(8*k)):=rfl;go_wp2;go_round
   case rel=>exact⟨k+1,AB,by go_num,by rw[<-ae.out]⟩
   case measure=>simp[intOf];omega
  ·obtain rfl:k=l:=AB
   go_wp2;go_region;all_goals
    go_end0;exact⟨(HB.setCell (p:=⟨p.bR,d,none⟩) (by simpa using H0.ltR.1) _).drew,ac.trans ((H2.keepR d _).trans (Keep.below Al.drew)),rfl,_,(H2.setR d _).below Al.drew⟩
theorem U5(J:Core w base bC p nx tab M)(hk:M.Ok)(op:Int)(d a b h:Nat)(B r:Int)(l:Nat)(av:1<=l)(aw:l<=8)(hd:d<8)(hh:h<M.nH)
 (kF:BD w n (.func (.func 109) #[] #[]) 186)(kW:BD w c (.int .u64 l) 74)
 (Z:∀m,Below w.heap.size w m->Calls Tryz.prog 109 #[Vq bC,.agg #[Vi op,Vi d,Vi a,Vi b,Vi B,Vi h]] m fun e aa=>e=.returned (.int .u64 r)/\Below m.heap.size m aa)(hl:lies (M.Hp h).base r l (M.Hp h).len=true)
 (z:∀m,Below w.heap.size w m->Calls Tryz.prog 134 #[Vq bC,Vi h,.int .u64 r,.int .u64 l,.bool false] m fun e aa=>e=.returned (.slice (some ⟨p.blk h,(r-(M.Hp h).base).toNat,none⟩) l (p.cap h-(r-(M.Hp h).base).toNat))/\Seen base bC M.nO (.slice p.aO M.nO p.cO) (first (M.nO*2) (CR M.K M.V)) 1 r m aa):
 Calls Tryz.prog 133 #[Vq bC,.agg #[Vi op,Vi d,Vi a,Vi b,Vi B,Vi h],Vq n,Vq c] w (Hy base bC tab w (.done ((M.see 1 r).setR d (Eu (M.Hp h).dat (r-(M.Hp h).base).toNat l)) nx)):=by
 have hF:=kF.lt;have hW:=kW.lt;have cF:=kF.cell;have cW:=kW.cell;have af:=kF.ne J.core Aa;have ag:=kW.ne J.core Aa;have ah:=kF.neOwn J.mem.obs Aa;have ai:=kW.neOwn J.mem.obs Aa;have hC:=J.lt.2;have al:=J.neR;have ax:=J.ltR.2;have nI:some w.heap.size≠(Value.slice p.aO M.nO p.cO).ownBlock:=fun q=>by have:=(J.mem.obs.lt _ q.symm).2;omega
 simp only[lies,Bool.and_eq_true,decide_eq_true_eq]at hl;have l1:=hl;have an:(d:Int)<8:=AB;obtain⟨o,ho⟩:=BG ((r-(M.Hp h).base).toNat);rw[ho]at z;rw[ho];have ap:o+l<=(M.Hp h).len:=AB;have aj:=(hk.heap h hh).2.2.1;have Y:=hxy (hk.dat h hh);have am:=hk.reg d hd;have H0:=hxy J;have s:=H0.out;have HK:Hid M.Ok:=hk;have ak:=hxy kF;clear J hk kF kW l1 ho;go_enter Tryz.func133,Tryz.ntmps133;go_wp2_with fail;generalize L:w.alloc (.cells #[Vi op,Vi d,Vi a,Vi b,Vi B,Vi h] 85)=wb;have xb:Bw w wb:=by rw[<-L];exact Ah
 have xy:w.heap.size<wb.heap.size:=by rw[<-L];simp
 obtain⟨S,u⟩:∃S:World->Prop,S=fun m=>m.cell? ⟨w.heap.size,0,none⟩=some (Vi op)/\m.cell? ⟨w.heap.size,1,none⟩=some (Vi d)/\m.cell? ⟨w.heap.size,2,none⟩=some (Vi a)/\m.cell? ⟨w.heap.size,3,none⟩=some (Vi b)/\m.cell? ⟨w.heap.size,4,none⟩=some (Vi B)/\m.cell? ⟨w.heap.size,5,none⟩=some (Vi h)/\m.cell? (Va n 0)=some (.func (.func 109) #[] #[])/\m.cell? (Va c 0)=some (.int .u64 l):=⟨_,rfl⟩
 have A:∀m,m.cell? ⟨w.heap.size,0,none⟩=some (Vi op)->m.cell? ⟨w.heap.size,1,none⟩=some (Vi d)->m.cell? ⟨w.heap.size,2,none⟩=some (Vi a)->m.cell? ⟨w.heap.size,3,none⟩=some (Vi b)->m.cell? ⟨w.heap.size,4,none⟩=some (Vi B)->m.cell? ⟨w.heap.size,5,none⟩=some (Vi h)->m.cell? (Va n 0)=some (.func (.func 109) #[] #[])->m.cell? (Va c 0)=some (.int .u64 l)->Such S m:=by unfold Such;rw[u];exact fun m a0 a1 a2 a3 a4 a5 a6 a7=>⟨a0,a1,a2,a3,a4,a5,a6,a7⟩
 have I:∀m,Bw wb m->Such S m:=fun m h=>A m ((h.cell (p:=⟨w.heap.size,0,none⟩) xy).trans (by rw[<-L];simp[go_sem])) ((h.cell (p:=⟨w.heap.size,1,none⟩) xy).trans (by rw[<-L];simp[go_sem])) ((h.cell (p:=⟨w.heap.size,2,none⟩) xy).trans (by rw[<-L];simp[go_sem])) ((h.cell (p:=⟨w.heap.size,3,none⟩) xy).trans (by rw[<-L];simp[go_sem])) ((h.cell (p:=⟨w.heap.size,4,none⟩) xy).trans (by rw[<-L];simp[go_sem])) ((h.cell (p:=⟨w.heap.size,5,none⟩) xy).trans (by rw[<-L];simp[go_sem])) ((h.cell (p:=Va n 0) (by simp;omega)).trans ((xb.cell (p:=Va n 0) hF).trans cF)) ((h.cell (p:=Va c 0) (by simp;omega)).trans ((xb.cell (p:=Va c 0) hW).trans cW))
 have j0:∀m,Such S m->m.cell? ⟨w.heap.size,0,none⟩=some (Vi op):=fun m h=>by unfold Such at h;rw[u]at h;exact h.1
 have j1:∀m,Such S m->m.cell? ⟨w.heap.size,1,none⟩=some (Vi d):=fun m h=>by unfold Such at h;rw[u]at h;exact h.2.1
 have j2:∀m,Such S m->m.cell? ⟨w.heap.size,2,none⟩=some (Vi a):=fun m h=>by unfold Such at h;rw[u]at h;exact h.2.2.1
 have j3:∀m,Such S m->m.cell? ⟨w.heap.size,3,none⟩=some (Vi b):=fun m h=>by unfold Such at h;rw[u]at h;exact h.2.2.2.1
 have j4:∀m,Such S m->m.cell? ⟨w.heap.size,4,none⟩=some (Vi B):=fun m h=>by unfold Such at h;rw[u]at h;exact h.2.2.2.2.1
 have j5:∀m,Such S m->m.cell? ⟨w.heap.size,5,none⟩=some (Vi h):=fun m h=>by unfold Such at h;rw[u]at h;exact h.2.2.2.2.2.1
 have R0:∀m,Such S m->m.cell? (Va n 0)=some (.func (.func 109) #[] #[]):=fun m h=>by unfold Such at h;rw[u]at h;exact h.2.2.2.2.2.2.1
 have R1:∀m,Such S m->m.cell? (Va c 0)=some (.int .u64 l):=fun m h=>by unfold Such at h;rw[u]at h;exact h.2.2.2.2.2.2.2
 have E:=hxy A;have x:=hxy I;have X:Hid _:=Z;have D:Hid _:=z;clear L cF cW u A I Z z;refine wp_region_held_drew (S:=Such S) Ab (x _ (Al.drew)) (fun hHeld=>?_);refine lM [0,1,2,3,4,5,7] ?_;refine wpAnyH_ready (rs:=[6]) Ab AY ?_;refine AllReadyH.cons rfl (fun K hK=>?_) AllReadyH.nil;go_simp;refine(X _ (xb.trans (Al.drew.mono (Nat.le_of_lt xy)))).mono ?_;rintro e C⟨rfl,R⟩;go_wp2_with fail;refine hK.out _ _ (x _ (Al.drew.trans R)) (fun N=>?_);clear hK K;refine wpAnyH_ready (rs:=[8]) Ab AY ?_;refine AllReadyH.cons rfl (fun K hK=>?_) AllReadyH.nil;go_simp;have xa:Bw w C:=xb.trans ((Al.drew.trans R).mono (Nat.le_of_lt xy));refine(D _ xa).mono ?_;rintro e w2⟨rfl,hs⟩;have ya:wb.heap.size<=C.heap.size:=by have:=R.size;simpa using this
 have Q:=Seen.of_below xa hs;have hI:∀k,w2.cell? ⟨w.heap.size,k,none⟩=C.cell? ⟨w.heap.size,k,none⟩:=fun k=>hs.cell (a:=⟨w.heap.size,k,none⟩) (by simp;omega) (by simp;omega) nI
 have hJ:∀b,b<w.heap.size->b≠bC->some b≠(Value.slice p.aO M.nO p.cO).ownBlock->∀k,w2.cell? (Va b k)=C.cell? (Va b k):=fun b h1 h2 h3 k=>hs.cell (a:=Va b k) (by simp;omega) h2 h3
 have zI:w.heap.size<w2.heap.size:=by have:=hs.size;omega
 go_wp2_with fail;refine hK.out _ _ (E w2 ((hI 0).trans (j0 C (by assumption))) ((hI 1).trans (j1 C (by assumption))) ((hI 2).trans (j2 C (by assumption))) ((hI 3).trans (j3 C (by assumption))) ((hI 4).trans (j4 C (by assumption))) ((hI 5).trans (j5 C (by assumption))) ((hJ n hF af ah 0).trans (R0 C (by assumption))) ((hJ c hW ag ai 0).trans (R1 C (by assumption)))) (fun O=>?_);clear hK K;refine Ao 9 ?_;refine wpAnyH_done Ab ?_ _;have ab:=s.seen Q;obtain⟨g,cp,U⟩:=ab;have e0:=U.c0;have rd:=U.reg hd;have fd:=U.freeR d;have zC:=U.lt.2;have zR:=U.ltR.2;have i1:w2.cell? ⟨w.heap.size,1,none⟩=some (Vi d):=j1 w2 (by assumption);have F:=ET (U.mem.data h hh);have zD:=F.2.2.2.lt;have HD:Hid (∀k,k<l->w2.cell? ⟨p.blk h,o+k,none⟩=some (.int .u8 ((M.Hp h).dat (o+k)))):=fun k hk=>F.2.2.2.cell (by show o+k<(M.Hp h).len;omega)
 have HB:=hxy (Q.below s.size s.lt.1 s.mem.obs);have ac:=hxy (s.keepS Q);have H2:Hid _:=U;clear Q U F hs hI hJ hHeld R N O j0 j1 j2 j3 j4 j5 R0 R1 D X x E xa ya xb;go_wp2;go_loop [7,21](fun v i=>∃k:Nat,k<=l/\i=Vi k/\v=.int .u64 (Eu (M.Hp h).dat o k))(fun _ i=>l-(intOf i).toNat)
 case atStart=>exact⟨0,Nat.zero_le _,rfl,rfl⟩
 case round=>
  obtain⟨k,ao,rfl,rfl⟩:=hrel;by_cases ad:k<l
  ·have g0:=HD.out k ad
   have hr:=FE (M.Hp h).dat o k fun j hj=>Y.out (o+j) AB
   have hy:=Y.out (o+k) AB;have ae:Hid (bits BinOp.or IntKind.u64 (Eu (M.Hp h).dat o k) ((M.Hp h).dat (o+k)*2^(8*k))=Eu (M.Hp h).dat o (k+1)):=Wm AB hr.1 hr.2 hy.1 hy.2;have au:=Lp (y:=(M.Hp h).dat (o+k)) (k:=k) AB hy.1 hy.2;have ar:Hid (((M.Hp h).dat (o+k))*2^(8*k)=((M.Hp h).dat (o+k))*2^(8*k)):=rfl;go_wp2;go_round
   case rel=>exact⟨k+1,AB,by go_num,by rw[<-ae.out]⟩
   case measure=>simp[intOf];omega
  ·obtain rfl:k=l:=AB
   go_wp2;go_region;all_goals
    go_end0;exact⟨(HB.setCell (p:=⟨p.bR,d,none⟩) (by simpa using H0.ltR.1) _).drew,ac.trans ((H2.keepR d _).trans (Keep.below Al.drew)),rfl,_,(H2.setR d _).below Al.drew⟩
theorem Tj(L:Core w base bC p nx tab M)(hk:M.Ok)(op:Int)(d a b h:Nat)(D l:Int)(m:Nat)(aN:1<=m)(aP:m<=8)(hd:d<8)(hh:h<M.nH)
 (kF:BD w n (.func (.func 107) #[] #[]) 186)(kW:BD w c (.int .u64 m) 74)
 (ab:∀r,Below w.heap.size w r->Calls Tryz.prog 107 #[Vq bC,.agg #[Vi op,Vi d,Vi a,Vi b,Vi D,Vi h]] r fun e ad=>e=.returned (.int .u64 l)/\Below r.heap.size r ad)(hl:lies (M.Hp h).base l m (M.Hp h).len=true)
 (A:∀r,Below w.heap.size w r->Calls Tryz.prog 134 #[Vq bC,Vi h,.int .u64 l,.int .u64 m,.bool true] r fun e ad=>e=.returned (.slice (some ⟨p.blk h,(l-(M.Hp h).base).toNat,none⟩) m (p.cap h-(l-(M.Hp h).base).toNat))/\Seen base bC M.nO (.slice p.aO M.nO p.cO) (first (M.nO*2) (CR M.K M.V)) 1 l r ad):
 Calls Tryz.prog 135 #[Vq bC,.agg #[Vi op,Vi d,Vi a,Vi b,Vi D,Vi h],Vq n,Vq c] w (Hy base bC tab w (.done ((M.see 1 l).pokeN h (l-(M.Hp h).base).toNat (M.R d) m) nx)):=by
 have hF:=kF.lt;have hW:=kW.lt;have cF:=kF.cell;have cW:=kW.cell;have ax:=kF.ne L.core Aa;have ay:=kW.ne L.core Aa;have az:=kF.neOwn L.mem.obs Aa;have aA:=kW.neOwn L.mem.obs Aa;have hC:=L.lt.2;have aG:=L.neR;have aQ:=L.ltR.2;have nI:some w.heap.size≠(Value.slice p.aO M.nO p.cO).ownBlock:=fun q=>by have:=(L.mem.obs.lt _ q.symm).2;omega
 simp only[lies,Bool.and_eq_true,decide_eq_true_eq]at hl;obtain⟨⟨l1,l2⟩,l3⟩:=hl;have aI:(d:Int)<8:=AB;obtain⟨o,ho⟩:=BG ((l-(M.Hp h).base).toNat);rw[ho]at A;rw[ho];have aM:o+m<=(M.Hp h).len:=AB;have aD:=(hk.heap h hh).2.2.1;have aB:Hid (∀j,j<(M.Hp h).len->0<=(M.Hp h).dat j/\(M.Hp h).dat j<=255):=hk.dat h hh;have au:=hk.reg d hd;have H0:=hxy L;have u:=H0.out;have HK:Hid M.Ok:=hk;have aF:=hxy kF;clear L hk kF kW l1 l2 l3 ho;go_enter Tryz.func135,Tryz.ntmps135;go_wp2_with fail;generalize N:w.alloc (.cells #[Vi op,Vi d,Vi a,Vi b,Vi D,Vi h] 85)=wb;have xb:Bw w wb:=by rw[<-N];exact Ah
 have xy:w.heap.size<wb.heap.size:=by rw[<-N];simp
 obtain⟨S,x⟩:∃S:World->Prop,S=fun r=>r.cell? ⟨w.heap.size,0,none⟩=some (Vi op)/\r.cell? ⟨w.heap.size,1,none⟩=some (Vi d)/\r.cell? ⟨w.heap.size,2,none⟩=some (Vi a)/\r.cell? ⟨w.heap.size,3,none⟩=some (Vi b)/\r.cell? ⟨w.heap.size,4,none⟩=some (Vi D)/\r.cell? ⟨w.heap.size,5,none⟩=some (Vi h)/\r.cell? (Va n 0)=some (.func (.func 107) #[] #[])/\r.cell? (Va c 0)=some (.int .u64 m):=⟨_,rfl⟩
 have C:∀r,r.cell? ⟨w.heap.size,0,none⟩=some (Vi op)->r.cell? ⟨w.heap.size,1,none⟩=some (Vi d)->r.cell? ⟨w.heap.size,2,none⟩=some (Vi a)->r.cell? ⟨w.heap.size,3,none⟩=some (Vi b)->r.cell? ⟨w.heap.size,4,none⟩=some (Vi D)->r.cell? ⟨w.heap.size,5,none⟩=some (Vi h)->r.cell? (Va n 0)=some (.func (.func 107) #[] #[])->r.cell? (Va c 0)=some (.int .u64 m)->Such S r:=by unfold Such;rw[x];exact fun r a0 a1 a2 a3 a4 a5 a6 a7=>⟨a0,a1,a2,a3,a4,a5,a6,a7⟩
 have J:∀r,Bw wb r->Such S r:=fun r h=>C r ((h.cell (p:=⟨w.heap.size,0,none⟩) xy).trans (by rw[<-N];simp[go_sem])) ((h.cell (p:=⟨w.heap.size,1,none⟩) xy).trans (by rw[<-N];simp[go_sem])) ((h.cell (p:=⟨w.heap.size,2,none⟩) xy).trans (by rw[<-N];simp[go_sem])) ((h.cell (p:=⟨w.heap.size,3,none⟩) xy).trans (by rw[<-N];simp[go_sem])) ((h.cell (p:=⟨w.heap.size,4,none⟩) xy).trans (by rw[<-N];simp[go_sem])) ((h.cell (p:=⟨w.heap.size,5,none⟩) xy).trans (by rw[<-N];simp[go_sem])) ((h.cell (p:=Va n 0) (by simp;omega)).trans ((xb.cell (p:=Va n 0) hF).trans cF)) ((h.cell (p:=Va c 0) (by simp;omega)).trans ((xb.cell (p:=Va c 0) hW).trans cW))
 have j0:∀r,Such S r->r.cell? ⟨w.heap.size,0,none⟩=some (Vi op):=fun r h=>by unfold Such at h;rw[x]at h;exact h.1
 have j1:∀r,Such S r->r.cell? ⟨w.heap.size,1,none⟩=some (Vi d):=fun r h=>by unfold Such at h;rw[x]at h;exact h.2.1
 have j2:∀r,Such S r->r.cell? ⟨w.heap.size,2,none⟩=some (Vi a):=fun r h=>by unfold Such at h;rw[x]at h;exact h.2.2.1
 have j3:∀r,Such S r->r.cell? ⟨w.heap.size,3,none⟩=some (Vi b):=fun r h=>by unfold Such at h;rw[x]at h;exact h.2.2.2.1
 have j4:∀r,Such S r->r.cell? ⟨w.heap.size,4,none⟩=some (Vi D):=fun r h=>by unfold Such at h;rw[x]at h;exact h.2.2.2.2.1
 have j5:∀r,Such S r->r.cell? ⟨w.heap.size,5,none⟩=some (Vi h):=fun r h=>by unfold Such at h;rw[x]at h;exact h.2.2.2.2.2.1
 have R0:∀r,Such S r->r.cell? (Va n 0)=some (.func (.func 107) #[] #[]):=fun r h=>by unfold Such at h;rw[x]at h;exact h.2.2.2.2.2.2.1
 have R1:∀r,Such S r->r.cell? (Va c 0)=some (.int .u64 m):=fun r h=>by unfold Such at h;rw[x]at h;exact h.2.2.2.2.2.2.2
 have I:=hxy C;have z:=hxy J;have aa:Hid _:=ab;have F:Hid _:=A;clear N cF cW x C J ab A;refine wp_region_held_drew (S:=Such S) Ab (z.out _ (Al.drew)) (fun hHeld=>?_);refine lM [0,1,2,3,4,5,7] ?_;refine wpAnyH_ready (rs:=[6]) Ab AY ?_;refine AllReadyH.cons rfl (fun K hK=>?_) AllReadyH.nil;go_simp;refine(aa.out _ (xb.trans (Al.drew.mono (Nat.le_of_lt xy)))).mono ?_;rintro e E⟨rfl,X⟩;go_wp2_with fail;refine hK.out _ _ (z.out _ (Al.drew.trans X)) (fun O=>?_);clear hK K;refine wpAnyH_ready (rs:=[8]) Ab AY ?_;refine AllReadyH.cons rfl (fun K hK=>?_) AllReadyH.nil;go_simp;have xa:Bw w E:=xb.trans ((Al.drew.trans X).mono (Nat.le_of_lt xy));refine(F.out _ xa).mono ?_;rintro e y⟨rfl,hs⟩;have ya:wb.heap.size<=E.heap.size:=by have:=X.size;simpa using this
 have U:Seen base bC M.nO (.slice p.aO M.nO p.cO) (first (M.nO*2) (CR M.K M.V)) 1 l w y:=Seen.of_below xa hs;have hI:∀k,y.cell? ⟨w.heap.size,k,none⟩=E.cell? ⟨w.heap.size,k,none⟩:=fun k=>hs.cell (a:=⟨w.heap.size,k,none⟩) (by simp;omega) (by simp;omega) nI
 have hJ:∀b,b<w.heap.size->b≠bC->some b≠(Value.slice p.aO M.nO p.cO).ownBlock->∀k,y.cell? (Va b k)=E.cell? (Va b k):=fun b h1 h2 h3 k=>hs.cell (a:=Va b k) (by simp;omega) h2 h3
 have zI:w.heap.size<y.heap.size:=by have:=hs.size;omega
 go_wp2_with fail;refine hK.out _ _ (I.out y ((hI 0).trans (j0 E (by assumption))) ((hI 1).trans (j1 E (by assumption))) ((hI 2).trans (j2 E (by assumption))) ((hI 3).trans (j3 E (by assumption))) ((hI 4).trans (j4 E (by assumption))) ((hI 5).trans (j5 E (by assumption))) ((hJ n hF ax az 0).trans (R0 E (by assumption))) ((hJ c hW ay aA 0).trans (R1 E (by assumption)))) (fun Q=>?_);clear hK K;refine Ao 9 ?_;refine wpAnyH_done Ab ?_ _;have ap:=u.seen U;obtain⟨g,cp,Z⟩:=ap;have e0:y.cell? (Va bC 0)=some (Vs p.bR 8 p.cR):=Z.c0;have rd:y.cell? ⟨p.bR,d,none⟩=some (.int .u64 (M.R d)):=Z.reg hd;have fd:y.frozen? ⟨p.bR,d,none⟩=false:=Z.freeR d;have zC:bC<y.heap.size:=Z.lt.2;have zR:p.bR<y.heap.size:=Z.ltR.2;have i1:y.cell? ⟨w.heap.size,1,none⟩=some (Vi d):=j1 y (by assumption);have s:=ET (Z.mem.data h hh);have zD:p.blk h<y.heap.size:=s.2.2.2.lt;have HD:Hid (∀k,k<m->y.cell? ⟨p.blk h,o+k,none⟩=some (.int .u8 ((M.Hp h).dat (o+k)))):=fun k hk=>s.2.2.2.cell (by show o+k<(M.Hp h).len;omega)
 have HB:Hid (Below base w y):=U.below u.size u.lt.1 u.mem.obs;have af:Hid (Keep w y):=u.keepS U;have H2:Hid _:=Z;clear U Z s hs hI hJ hHeld X O Q j0 j1 j2 j3 j4 j5 R0 R1 F aa z I xa ya xb;have aH:p.blk h<w.heap.size:=(H0.out.mem.data h hh).lt _ rfl|>.2;have ai:base<=p.blk h:=(H0.out.mem.data h hh).lt _ rfl|>.1;obtain⟨ah,aC⟩:=au;have ac:Hid (∀k,((M.see 1 l).pokeN h o (M.R d) k).nH=M.nH/\(∀i,(((M.see 1 l).pokeN h o (M.R d) k).Hp i).len=(M.Hp i).len)/\((M.see 1 l).pokeN h o (M.R d) k).R=M.R):=MV.pokeN_len (M.see 1 l) h o (M.R d);have ao:p.blk h≠w.heap.size:=AB;have ar:Hid (p.blk h≠w.heap.size):=ao;clear ao;go_wp2;go_loopw [19](fun i wr=>∃k:Nat,k<=m/\i=Vi k/\Below base w wr/\Keep w wr/\w.heap.size<wr.heap.size/\wr.cell? ⟨w.heap.size,1,none⟩=some (Vi d)/\Core wr base bC {p with aO:=some ⟨g,0,none⟩,cO:=cp} nx tab ((M.see 1 l).pokeN h o (M.R d) k))(fun i _=>m-(intOf i).toNat)
 case atStart=>exact⟨0,Nat.zero_le _,rfl,HB.out,af.out,zI,i1,H2.out⟩
 case round=>
  obtain⟨k,aJ,rfl,aj,al,aw,av,B⟩:=hrel;clear e0 rd fd zC zR i1 zD HD HB H2 af zI;have HR:Hid _:=B;have ae:Hid _:=aj;have ag:=hxy al;clear aj al;by_cases aK:k<m
  ·have Y:=ac.out k
   have s:=ET (B.mem.data h (by rw[Y.1];exact hh));have am:=Y.2.1 h;have e0:wr.cell? (Va bC 0)=some (Vs p.bR 8 p.cR):=B.c0;have rd:wr.cell? ⟨p.bR,d,none⟩=some (.int .u64 (M.R d)):=(B.reg hd).trans (by rw[Y.2.2]);have zC:bC<wr.heap.size:=B.lt.2;have zR:p.bR<wr.heap.size:=B.ltR.2;have zD:p.blk h<wr.heap.size:=s.2.2.2.lt;have gD:wr.cell? ⟨p.blk h,o+k,none⟩=some (EH .u8 (((M.see 1 l).pokeN h o (M.R d) k).Hp h).dat (o+k)):=s.2.2.2.cell (by rw[am];omega);have fD:wr.frozen? ⟨p.blk h,o+k,none⟩=false:=s.2.2.2.free (o+k);have an:(0:Int)<2^(8*k):=Int.pow_pos Aa;have ak:0<=M.R d/2^(8*k):=Int.ediv_nonneg ah (Int.le_of_lt an);have aE:=hxy ak;unfold EH at gD;clear B s am Y ak an;go_wp2;go_region;all_goals
    go_wp2;go_roundw
    case rel=>
     refine⟨k+1,AB,by go_num,(ae.out.setCell (p:=⟨p.blk h,o+k,none⟩) (by simpa using ai) _).drew,ag.out.trans ((HR.out.keepD (by rw[(ac.out k).1];exact hh) (o+k) _).trans (Keep.below Al.drew)),by simpa using aw,?_,?_⟩
     ·exact(World.cell?_setCell_far _ _ _ _ (by simpa using ar.out)).trans av
     ·exact(HR.out.poke (by rw[(ac.out k).1];exact hh) (o+k) _).below Al.drew
    case measure=>simp[intOf];omega
  ·obtain rfl:k=m:=AB
   go_wp2;go_end0;exact⟨ae.out,ag.out,rfl,_,HR.out⟩
theorem Tc(L:Core w base bC p nx tab M)(hk:M.Ok)(op:Int)(d a b h:Nat)(D l:Int)(m:Nat)(aN:1<=m)(aP:m<=8)(hd:d<8)(hh:h<M.nH)
 (kF:BD w n (.func (.func 109) #[] #[]) 186)(kW:BD w c (.int .u64 m) 74)
 (ab:∀r,Below w.heap.size w r->Calls Tryz.prog 109 #[Vq bC,.agg #[Vi op,Vi d,Vi a,Vi b,Vi D,Vi h]] r fun e ad=>e=.returned (.int .u64 l)/\Below r.heap.size r ad)(hl:lies (M.Hp h).base l m (M.Hp h).len=true)
 (A:∀r,Below w.heap.size w r->Calls Tryz.prog 134 #[Vq bC,Vi h,.int .u64 l,.int .u64 m,.bool true] r fun e ad=>e=.returned (.slice (some ⟨p.blk h,(l-(M.Hp h).base).toNat,none⟩) m (p.cap h-(l-(M.Hp h).base).toNat))/\Seen base bC M.nO (.slice p.aO M.nO p.cO) (first (M.nO*2) (CR M.K M.V)) 1 l r ad):
 Calls Tryz.prog 135 #[Vq bC,.agg #[Vi op,Vi d,Vi a,Vi b,Vi D,Vi h],Vq n,Vq c] w (Hy base bC tab w (.done ((M.see 1 l).pokeN h (l-(M.Hp h).base).toNat (M.R d) m) nx)):=by
 have hF:=kF.lt;have hW:=kW.lt;have cF:=kF.cell;have cW:=kW.cell;have ax:=kF.ne L.core Aa;have ay:=kW.ne L.core Aa;have az:=kF.neOwn L.mem.obs Aa;have aA:=kW.neOwn L.mem.obs Aa;have hC:=L.lt.2;have aG:=L.neR;have aQ:=L.ltR.2;have nI:some w.heap.size≠(Value.slice p.aO M.nO p.cO).ownBlock:=fun q=>by have:=(L.mem.obs.lt _ q.symm).2;omega
 simp only[lies,Bool.and_eq_true,decide_eq_true_eq]at hl;obtain⟨⟨l1,l2⟩,l3⟩:=hl;have aI:(d:Int)<8:=AB;obtain⟨o,ho⟩:=BG ((l-(M.Hp h).base).toNat);rw[ho]at A;rw[ho];have aM:o+m<=(M.Hp h).len:=AB;have aD:=(hk.heap h hh).2.2.1;have aB:Hid (∀j,j<(M.Hp h).len->0<=(M.Hp h).dat j/\(M.Hp h).dat j<=255):=hk.dat h hh;have au:=hk.reg d hd;have H0:=hxy L;have u:=H0.out;have HK:Hid M.Ok:=hk;have aF:=hxy kF;clear L hk kF kW l1 l2 l3 ho;go_enter Tryz.func135,Tryz.ntmps135;go_wp2_with fail;generalize N:w.alloc (.cells #[Vi op,Vi d,Vi a,Vi b,Vi D,Vi h] 85)=wb;have xb:Bw w wb:=by rw[<-N];exact Ah
 have xy:w.heap.size<wb.heap.size:=by rw[<-N];simp
 obtain⟨S,x⟩:∃S:World->Prop,S=fun r=>r.cell? ⟨w.heap.size,0,none⟩=some (Vi op)/\r.cell? ⟨w.heap.size,1,none⟩=some (Vi d)/\r.cell? ⟨w.heap.size,2,none⟩=some (Vi a)/\r.cell? ⟨w.heap.size,3,none⟩=some (Vi b)/\r.cell? ⟨w.heap.size,4,none⟩=some (Vi D)/\r.cell? ⟨w.heap.size,5,none⟩=some (Vi h)/\r.cell? (Va n 0)=some (.func (.func 109) #[] #[])/\r.cell? (Va c 0)=some (.int .u64 m):=⟨_,rfl⟩
 have C:∀r,r.cell? ⟨w.heap.size,0,none⟩=some (Vi op)->r.cell? ⟨w.heap.size,1,none⟩=some (Vi d)->r.cell? ⟨w.heap.size,2,none⟩=some (Vi a)->r.cell? ⟨w.heap.size,3,none⟩=some (Vi b)->r.cell? ⟨w.heap.size,4,none⟩=some (Vi D)->r.cell? ⟨w.heap.size,5,none⟩=some (Vi h)->r.cell? (Va n 0)=some (.func (.func 109) #[] #[])->r.cell? (Va c 0)=some (.int .u64 m)->Such S r:=by unfold Such;rw[x];exact fun r a0 a1 a2 a3 a4 a5 a6 a7=>⟨a0,a1,a2,a3,a4,a5,a6,a7⟩
 have J:∀r,Bw wb r->Such S r:=fun r h=>C r ((h.cell (p:=⟨w.heap.size,0,none⟩) xy).trans (by rw[<-N];simp[go_sem])) ((h.cell (p:=⟨w.heap.size,1,none⟩) xy).trans (by rw[<-N];simp[go_sem])) ((h.cell (p:=⟨w.heap.size,2,none⟩) xy).trans (by rw[<-N];simp[go_sem])) ((h.cell (p:=⟨w.heap.size,3,none⟩) xy).trans (by rw[<-N];simp[go_sem])) ((h.cell (p:=⟨w.heap.size,4,none⟩) xy).trans (by rw[<-N];simp[go_sem])) ((h.cell (p:=⟨w.heap.size,5,none⟩) xy).trans (by rw[<-N];simp[go_sem])) ((h.cell (p:=Va n 0) (by simp;omega)).trans ((xb.cell (p:=Va n 0) hF).trans cF)) ((h.cell (p:=Va c 0) (by simp;omega)).trans ((xb.cell (p:=Va c 0) hW).trans cW))
 have j0:∀r,Such S r->r.cell? ⟨w.heap.size,0,none⟩=some (Vi op):=fun r h=>by unfold Such at h;rw[x]at h;exact h.1
 have j1:∀r,Such S r->r.cell? ⟨w.heap.size,1,none⟩=some (Vi d):=fun r h=>by unfold Such at h;rw[x]at h;exact h.2.1
 have j2:∀r,Such S r->r.cell? ⟨w.heap.size,2,none⟩=some (Vi a):=fun r h=>by unfold Such at h;rw[x]at h;exact h.2.2.1
 have j3:∀r,Such S r->r.cell? ⟨w.heap.size,3,none⟩=some (Vi b):=fun r h=>by unfold Such at h;rw[x]at h;exact h.2.2.2.1
 have j4:∀r,Such S r->r.cell? ⟨w.heap.size,4,none⟩=some (Vi D):=fun r h=>by unfold Such at h;rw[x]at h;exact h.2.2.2.2.1
 have j5:∀r,Such S r->r.cell? ⟨w.heap.size,5,none⟩=some (Vi h):=fun r h=>by unfold Such at h;rw[x]at h;exact h.2.2.2.2.2.1
 have R0:∀r,Such S r->r.cell? (Va n 0)=some (.func (.func 109) #[] #[]):=fun r h=>by unfold Such at h;rw[x]at h;exact h.2.2.2.2.2.2.1
 have R1:∀r,Such S r->r.cell? (Va c 0)=some (.int .u64 m):=fun r h=>by unfold Such at h;rw[x]at h;exact h.2.2.2.2.2.2.2
 have I:=hxy C;have z:=hxy J;have aa:Hid _:=ab;have F:Hid _:=A;clear N cF cW x C J ab A;refine wp_region_held_drew (S:=Such S) Ab (z.out _ (Al.drew)) (fun hHeld=>?_);refine lM [0,1,2,3,4,5,7] ?_;refine wpAnyH_ready (rs:=[6]) Ab AY ?_;refine AllReadyH.cons rfl (fun K hK=>?_) AllReadyH.nil;go_simp;refine(aa.out _ (xb.trans (Al.drew.mono (Nat.le_of_lt xy)))).mono ?_;rintro e E⟨rfl,X⟩;go_wp2_with fail;refine hK.out _ _ (z.out _ (Al.drew.trans X)) (fun O=>?_);clear hK K;refine wpAnyH_ready (rs:=[8]) Ab AY ?_;refine AllReadyH.cons rfl (fun K hK=>?_) AllReadyH.nil;go_simp;have xa:Bw w E:=xb.trans ((Al.drew.trans X).mono (Nat.le_of_lt xy));refine(F.out _ xa).mono ?_;rintro e y⟨rfl,hs⟩;have ya:wb.heap.size<=E.heap.size:=by have:=X.size;simpa using this
 have U:Seen base bC M.nO (.slice p.aO M.nO p.cO) (first (M.nO*2) (CR M.K M.V)) 1 l w y:=Seen.of_below xa hs;have hI:∀k,y.cell? ⟨w.heap.size,k,none⟩=E.cell? ⟨w.heap.size,k,none⟩:=fun k=>hs.cell (a:=⟨w.heap.size,k,none⟩) (by simp;omega) (by simp;omega) nI
 have hJ:∀b,b<w.heap.size->b≠bC->some b≠(Value.slice p.aO M.nO p.cO).ownBlock->∀k,y.cell? (Va b k)=E.cell? (Va b k):=fun b h1 h2 h3 k=>hs.cell (a:=Va b k) (by simp;omega) h2 h3
 have zI:w.heap.size<y.heap.size:=by have:=hs.size;omega
 go_wp2_with fail;refine hK.out _ _ (I.out y ((hI 0).trans (j0 E (by assumption))) ((hI 1).trans (j1 E (by assumption))) ((hI 2).trans (j2 E (by assumption))) ((hI 3).trans (j3 E (by assumption))) ((hI 4).trans (j4 E (by assumption))) ((hI 5).trans (j5 E (by assumption))) ((hJ n hF ax az 0).trans (R0 E (by assumption))) ((hJ c hW ay aA 0).trans (R1 E (by assumption)))) (fun Q=>?_);clear hK K;refine Ao 9 ?_;refine wpAnyH_done Ab ?_ _;have ap:=u.seen U;obtain⟨g,cp,Z⟩:=ap;have e0:y.cell? (Va bC 0)=some (Vs p.bR 8 p.cR):=Z.c0;have rd:y.cell? ⟨p.bR,d,none⟩=some (.int .u64 (M.R d)):=Z.reg hd;have fd:y.frozen? ⟨p.bR,d,none⟩=false:=Z.freeR d;have zC:bC<y.heap.size:=Z.lt.2;have zR:p.bR<y.heap.size:=Z.ltR.2;have i1:y.cell? ⟨w.heap.size,1,none⟩=some (Vi d):=j1 y (by assumption);have s:=ET (Z.mem.data h hh);have zD:p.blk h<y.heap.size:=s.2.2.2.lt;have HD:Hid (∀k,k<m->y.cell? ⟨p.blk h,o+k,none⟩=some (.int .u8 ((M.Hp h).dat (o+k)))):=fun k hk=>s.2.2.2.cell (by show o+k<(M.Hp h).len;omega)
 have HB:Hid (Below base w y):=U.below u.size u.lt.1 u.mem.obs;have af:Hid (Keep w y):=u.keepS U;have H2:Hid _:=Z;clear U Z s hs hI hJ hHeld X O Q j0 j1 j2 j3 j4 j5 R0 R1 F aa z I xa ya xb;have aH:p.blk h<w.heap.size:=(H0.out.mem.data h hh).lt _ rfl|>.2;have ai:base<=p.blk h:=(H0.out.mem.data h hh).lt _ rfl|>.1;obtain⟨ah,aC⟩:=au;have ac:Hid (∀k,((M.see 1 l).pokeN h o (M.R d) k).nH=M.nH/\(∀i,(((M.see 1 l).pokeN h o (M.R d) k).Hp i).len=(M.Hp i).len)/\((M.see 1 l).pokeN h o (M.R d) k).R=M.R):=MV.pokeN_len (M.see 1 l) h o (M.R d);have ao:p.blk h≠w.heap.size:=AB;have ar:Hid (p.blk h≠w.heap.size):=ao;clear ao;go_wp2;go_loopw [19](fun i wr=>∃k:Nat,k<=m/\i=Vi k/\Below base w wr/\Keep w wr/\w.heap.size<wr.heap.size/\wr.cell? ⟨w.heap.size,1,none⟩=some (Vi d)/\Core wr base bC {p with aO:=some ⟨g,0,none⟩,cO:=cp} nx tab ((M.see 1 l).pokeN h o (M.R d) k))(fun i _=>m-(intOf i).toNat)
 case atStart=>exact⟨0,Nat.zero_le _,rfl,HB.out,af.out,zI,i1,H2.out⟩
 case round=>
  obtain⟨k,aJ,rfl,aj,al,aw,av,B⟩:=hrel;clear e0 rd fd zC zR i1 zD HD HB H2 af zI;have HR:Hid _:=B;have ae:Hid _:=aj;have ag:=hxy al;clear aj al;by_cases aK:k<m
  ·have Y:=ac.out k
   have s:=ET (B.mem.data h (by rw[Y.1];exact hh));have am:=Y.2.1 h;have e0:wr.cell? (Va bC 0)=some (Vs p.bR 8 p.cR):=B.c0;have rd:wr.cell? ⟨p.bR,d,none⟩=some (.int .u64 (M.R d)):=(B.reg hd).trans (by rw[Y.2.2]);have zC:bC<wr.heap.size:=B.lt.2;have zR:p.bR<wr.heap.size:=B.ltR.2;have zD:p.blk h<wr.heap.size:=s.2.2.2.lt;have gD:wr.cell? ⟨p.blk h,o+k,none⟩=some (EH .u8 (((M.see 1 l).pokeN h o (M.R d) k).Hp h).dat (o+k)):=s.2.2.2.cell (by rw[am];omega);have fD:wr.frozen? ⟨p.blk h,o+k,none⟩=false:=s.2.2.2.free (o+k);have an:(0:Int)<2^(8*k):=Int.pow_pos Aa;have ak:0<=M.R d/2^(8*k):=Int.ediv_nonneg ah (Int.le_of_lt an);have aE:=hxy ak;unfold EH at gD;clear B s am Y ak an;go_wp2;go_region;all_goals
    go_wp2;go_roundw
    case rel=>
     refine⟨k+1,AB,by go_num,(ae.out.setCell (p:=⟨p.blk h,o+k,none⟩) (by simpa using ai) _).drew,ag.out.trans ((HR.out.keepD (by rw[(ac.out k).1];exact hh) (o+k) _).trans (Keep.below Al.drew)),by simpa using aw,?_,?_⟩
     ·exact(World.cell?_setCell_far _ _ _ _ (by simpa using ar.out)).trans av
     ·exact(HR.out.poke (by rw[(ac.out k).1];exact hh) (o+k) _).below Al.drew
    case measure=>simp[intOf];omega
  ·obtain rfl:k=m:=AB
   go_wp2;go_end0;exact⟨ae.out,ag.out,rfl,_,HR.out⟩
theorem Rn(s:Core w base bC p nx tab M)(hk:M.Ok)(B:Int)(d a b h:Nat)(l:Int)(k:Nat)(E:1<=k)(F:k<=8)(hn:M.nO<=1048576)(hd:d<8)(Y:a<8)
 (I:BD w n (.func (.func 107) #[] #[]) 186)(J:BD w c (.int .u64 k) 74):
 Calls Tryz.prog 133 #[Vq bC,.agg #[Vi B,Vi d,Vi a,Vi b,Vi l,Vi h],Vq n,Vq c] w (Hy base bC tab w (Ca false k (J4 M a l) d h M nx)):=by
 have q:∀m,Bw w m->Calls Tryz.prog 107 #[Vq bC,.agg #[Vi B,Vi d,Vi a,Vi b,Vi l,Vi h]] m fun e x=>e=.returned (.int .u64 (J4 M a l))/\Bw m x:=fun m y=>Fv bC p.bR p.cR a B d b l h M.R m Y (s.below y).lt.2 (s.below y).ltR.2 (s.below y).c0 ((s.below y).reg Y)
 have A:0<=J4 M a l/\J4 M a l<=18446744073709551615:=Di _;generalize J4 M a l=j at q A⊢;have C:∀(e:Ending)(m:World),(e=.panicked [{v:=.iface 138 (.agg #[]),recovered:=false}]/\Seen base bC M.nO (.slice p.aO M.nO p.cO) (first (M.nO*2) (CR M.K M.V)) 1 j w m)->Hy base bC tab w (.flt (M.see 1 j)) e m:=by
  rintro e m⟨rfl,U⟩;obtain⟨g,cp,o⟩:=s.seen U;exact⟨U.below s.size s.lt.1 s.mem.obs,s.keepS U,rfl,_,_,o⟩
 unfold Ca;by_cases Z:M.nH<=h
 ·rw[if_pos Z]
  refine(Rl base bC n c M.nO (.slice p.aO M.nO p.cO) (first (M.nO*2) (CR M.K M.V)) B d a b l h j k w I.lt J.lt I.cell J.cell q (fun m z=>?_)).mono C;have o:=s.below z;exact I7 base bC M.nO _ _ p.aH M.nH p.cH h j k false m hn o.size o.lt.2 o.neO o.c5 o.c8 (o.free 8) o.mem.obs AB
 ·rw[if_neg Z]
  have u:h<M.nH:=AB;have r:∀m,Bw w m->Calls Tryz.prog 134 #[Vq bC,Vi h,.int .u64 j,.int .u64 k,.bool false] m fun e x=>Seen base bC M.nO (.slice p.aO M.nO p.cO) (first (M.nO*2) (CR M.K M.V)) 1 j m x/\(if lies (M.Hp h).base j k (M.Hp h).len&&(!false||(M.Hp h).wr)then e=.returned (.slice (some ⟨p.blk h,(j-(M.Hp h).base).toNat,none⟩) k (p.cap h-(j-(M.Hp h).base).toNat))else e=.panicked [{v:=.iface 138 (.agg #[]),recovered:=false}]):=by
   intro m z;have o:=s.below z;obtain⟨bH,N,O,Q,S⟩:=o.heapAt u;have hp:=hk.heap h u;have X:=o.c5;rw[N]at X;exact Ka base bC bH (p.blk h) M.nO _ _ M.nH p.cH h (place M.Hp p.blk p.cap) j k false m hn o.size o.lt.2 o.neO Q O X o.c8 (o.free 8) o.mem.obs u S (by show(M.Hp h).len<=1048576;omega) hp.1 (by show(M.Hp h).base<=18446744073709551615;omega) A.1 A.2 E F (fun _=>rfl) (ET (o.mem.data h u)).2.1
  cases z:(lies (M.Hp h).base j k (M.Hp h).len&&(!false||(M.Hp h).wr))with
  |false=>
   rw[if_neg Aa];refine(Rl base bC n c M.nO (.slice p.aO M.nO p.cO) (first (M.nO*2) (CR M.K M.V)) B d a b l h j k w I.lt J.lt I.cell J.cell q (fun m y=>?_)).mono C;refine(r m y).mono ?_;rintro e x⟨L,D⟩;rw[z]at D;exact⟨by simpa using D,L⟩
  |true=>
   have hl:lies (M.Hp h).base j k (M.Hp h).len=true:=by
    rw[Bool.and_eq_true]at z;exact z.1
   rw[if_pos rfl];refine VZ s hk B d a b h l j k E F hd u I J q hl (fun m y=>?_);refine(r m y).mono ?_;rintro e x⟨L,D⟩;rw[z]at D;exact⟨by simpa using D,L⟩
theorem Rq(s:Core w base bC p nx tab M)(hk:M.Ok)(B:Int)(d a b h:Nat)(u:Int)(k:Nat)(E:1<=k)(F:k<=8)(hn:M.nO<=1048576)(hd:d<8)(Y:a<8)(A:b<8)
 (I:BD w n (.func (.func 109) #[] #[]) 186)(J:BD w c (.int .u64 k) 74):
 Calls Tryz.prog 133 #[Vq bC,.agg #[Vi B,Vi d,Vi a,Vi b,Vi u,Vi h],Vq n,Vq c] w (Hy base bC tab w (Ca false k (KJ M a b) d h M nx)):=by
 have o:∀l,Bw w l->Calls Tryz.prog 109 #[Vq bC,.agg #[Vi B,Vi d,Vi a,Vi b,Vi u,Vi h]] l fun e y=>e=.returned (.int .u64 (KJ M a b))/\Bw l y:=fun l r=>GZ bC p.bR p.cR a b B d u h M.R l Y A (s.below r).lt.2 (s.below r).ltR.2 (s.below r).c0 ((s.below r).reg Y) ((s.below r).reg A)
 have z:0<=KJ M a b/\KJ M a b<=18446744073709551615:=Di _;generalize KJ M a b=j at o z⊢;have C:∀(e:Ending)(l:World),(e=.panicked [{v:=.iface 138 (.agg #[]),recovered:=false}]/\Seen base bC M.nO (.slice p.aO M.nO p.cO) (first (M.nO*2) (CR M.K M.V)) 1 j w l)->Hy base bC tab w (.flt (M.see 1 j)) e l:=by
  rintro e l⟨rfl,U⟩;obtain⟨g,cp,m⟩:=s.seen U;exact⟨U.below s.size s.lt.1 s.mem.obs,s.keepS U,rfl,_,_,m⟩
 unfold Ca;by_cases Z:M.nH<=h
 ·rw[if_pos Z]
  refine(RG base bC n c M.nO (.slice p.aO M.nO p.cO) (first (M.nO*2) (CR M.K M.V)) B d a b u h j k w I.lt J.lt I.cell J.cell o (fun l r=>?_)).mono C;have m:=s.below r;exact I7 base bC M.nO _ _ p.aH M.nH p.cH h j k false l hn m.size m.lt.2 m.neO m.c5 m.c8 (m.free 8) m.mem.obs AB
 ·rw[if_neg Z]
  have x:h<M.nH:=AB;have q:∀l,Bw w l->Calls Tryz.prog 134 #[Vq bC,Vi h,.int .u64 j,.int .u64 k,.bool false] l fun e y=>Seen base bC M.nO (.slice p.aO M.nO p.cO) (first (M.nO*2) (CR M.K M.V)) 1 j l y/\(if lies (M.Hp h).base j k (M.Hp h).len&&(!false||(M.Hp h).wr)then e=.returned (.slice (some ⟨p.blk h,(j-(M.Hp h).base).toNat,none⟩) k (p.cap h-(j-(M.Hp h).base).toNat))else e=.panicked [{v:=.iface 138 (.agg #[]),recovered:=false}]):=by
   intro l r;have m:=s.below r;obtain⟨bH,N,O,Q,S⟩:=m.heapAt x;have hp:=hk.heap h x;have X:=m.c5;rw[N]at X;exact Ka base bC bH (p.blk h) M.nO _ _ M.nH p.cH h (place M.Hp p.blk p.cap) j k false l hn m.size m.lt.2 m.neO Q O X m.c8 (m.free 8) m.mem.obs x S (by show(M.Hp h).len<=1048576;omega) hp.1 (by show(M.Hp h).base<=18446744073709551615;omega) z.1 z.2 E F (fun _=>rfl) (ET (m.mem.data h x)).2.1
  cases r:(lies (M.Hp h).base j k (M.Hp h).len&&(!false||(M.Hp h).wr))with
  |false=>
   rw[if_neg Aa];refine(RG base bC n c M.nO (.slice p.aO M.nO p.cO) (first (M.nO*2) (CR M.K M.V)) B d a b u h j k w I.lt J.lt I.cell J.cell o (fun l A=>?_)).mono C;refine(q l A).mono ?_;rintro e y⟨L,D⟩;rw[r]at D;exact⟨by simpa using D,L⟩
  |true=>
   have hl:lies (M.Hp h).base j k (M.Hp h).len=true:=by
    rw[Bool.and_eq_true]at r;exact r.1
   rw[if_pos rfl];refine U5 s hk B d a b h u j k E F hd x I J o hl (fun l A=>?_);refine(q l A).mono ?_;rintro e y⟨L,D⟩;rw[r]at D;exact⟨by simpa using D,L⟩
theorem O9(s:Core w base bC p nx tab M)(hk:M.Ok)(B:Int)(d a b h:Nat)(l:Int)(k:Nat)(E:1<=k)(F:k<=8)(hn:M.nO<=1048576)(hd:d<8)(Y:a<8)
 (I:BD w n (.func (.func 107) #[] #[]) 186)(J:BD w c (.int .u64 k) 74):
 Calls Tryz.prog 135 #[Vq bC,.agg #[Vi B,Vi d,Vi a,Vi b,Vi l,Vi h],Vq n,Vq c] w (Hy base bC tab w (Ca true k (J4 M a l) d h M nx)):=by
 have q:∀m,Bw w m->Calls Tryz.prog 107 #[Vq bC,.agg #[Vi B,Vi d,Vi a,Vi b,Vi l,Vi h]] m fun e x=>e=.returned (.int .u64 (J4 M a l))/\Bw m x:=fun m y=>Fv bC p.bR p.cR a B d b l h M.R m Y (s.below y).lt.2 (s.below y).ltR.2 (s.below y).c0 ((s.below y).reg Y)
 have A:0<=J4 M a l/\J4 M a l<=18446744073709551615:=Di _;generalize J4 M a l=j at q A⊢;have C:∀(e:Ending)(m:World),(e=.panicked [{v:=.iface 138 (.agg #[]),recovered:=false}]/\Seen base bC M.nO (.slice p.aO M.nO p.cO) (first (M.nO*2) (CR M.K M.V)) 1 j w m)->Hy base bC tab w (.flt (M.see 1 j)) e m:=by
  rintro e m⟨rfl,U⟩;obtain⟨g,cp,o⟩:=s.seen U;exact⟨U.below s.size s.lt.1 s.mem.obs,s.keepS U,rfl,_,_,o⟩
 unfold Ca;by_cases Z:M.nH<=h
 ·rw[if_pos Z]
  refine(PL base bC n c M.nO (.slice p.aO M.nO p.cO) (first (M.nO*2) (CR M.K M.V)) B d a b l h j k w I.lt J.lt I.cell J.cell q (fun m z=>?_)).mono C;have o:=s.below z;exact I7 base bC M.nO _ _ p.aH M.nH p.cH h j k true m hn o.size o.lt.2 o.neO o.c5 o.c8 (o.free 8) o.mem.obs AB
 ·rw[if_neg Z]
  have u:h<M.nH:=AB;have r:∀m,Bw w m->Calls Tryz.prog 134 #[Vq bC,Vi h,.int .u64 j,.int .u64 k,.bool true] m fun e x=>Seen base bC M.nO (.slice p.aO M.nO p.cO) (first (M.nO*2) (CR M.K M.V)) 1 j m x/\(if lies (M.Hp h).base j k (M.Hp h).len&&(!true||(M.Hp h).wr)then e=.returned (.slice (some ⟨p.blk h,(j-(M.Hp h).base).toNat,none⟩) k (p.cap h-(j-(M.Hp h).base).toNat))else e=.panicked [{v:=.iface 138 (.agg #[]),recovered:=false}]):=by
   intro m z;have o:=s.below z;obtain⟨bH,N,O,Q,S⟩:=o.heapAt u;have hp:=hk.heap h u;have X:=o.c5;rw[N]at X;exact Ka base bC bH (p.blk h) M.nO _ _ M.nH p.cH h (place M.Hp p.blk p.cap) j k true m hn o.size o.lt.2 o.neO Q O X o.c8 (o.free 8) o.mem.obs u S (by show(M.Hp h).len<=1048576;omega) hp.1 (by show(M.Hp h).base<=18446744073709551615;omega) A.1 A.2 E F (fun _=>rfl) (ET (o.mem.data h u)).2.1
  cases z:(lies (M.Hp h).base j k (M.Hp h).len&&(!true||(M.Hp h).wr))with
  |false=>
   rw[if_neg Aa];refine(PL base bC n c M.nO (.slice p.aO M.nO p.cO) (first (M.nO*2) (CR M.K M.V)) B d a b l h j k w I.lt J.lt I.cell J.cell q (fun m y=>?_)).mono C;refine(r m y).mono ?_;rintro e x⟨L,D⟩;rw[z]at D;exact⟨by simpa using D,L⟩
  |true=>
   have hl:lies (M.Hp h).base j k (M.Hp h).len=true:=by
    rw[Bool.and_eq_true]at z;exact z.1
   rw[if_pos rfl];refine Tj s hk B d a b h l j k E F hd u I J q hl (fun m y=>?_);refine(r m y).mono ?_;rintro e x⟨L,D⟩;rw[z]at D;exact⟨by simpa using D,L⟩
theorem Oq(s:Core w base bC p nx tab M)(hk:M.Ok)(B:Int)(d a b h:Nat)(u:Int)(k:Nat)(E:1<=k)(F:k<=8)(hn:M.nO<=1048576)(hd:d<8)(Y:a<8)(A:b<8)
 (I:BD w n (.func (.func 109) #[] #[]) 186)(J:BD w c (.int .u64 k) 74):
 Calls Tryz.prog 135 #[Vq bC,.agg #[Vi B,Vi d,Vi a,Vi b,Vi u,Vi h],Vq n,Vq c] w (Hy base bC tab w (Ca true k (KJ M a b) d h M nx)):=by
 have o:∀l,Bw w l->Calls Tryz.prog 109 #[Vq bC,.agg #[Vi B,Vi d,Vi a,Vi b,Vi u,Vi h]] l fun e y=>e=.returned (.int .u64 (KJ M a b))/\Bw l y:=fun l r=>GZ bC p.bR p.cR a b B d u h M.R l Y A (s.below r).lt.2 (s.below r).ltR.2 (s.below r).c0 ((s.below r).reg Y) ((s.below r).reg A)
 have z:0<=KJ M a b/\KJ M a b<=18446744073709551615:=Di _;generalize KJ M a b=j at o z⊢;have C:∀(e:Ending)(l:World),(e=.panicked [{v:=.iface 138 (.agg #[]),recovered:=false}]/\Seen base bC M.nO (.slice p.aO M.nO p.cO) (first (M.nO*2) (CR M.K M.V)) 1 j w l)->Hy base bC tab w (.flt (M.see 1 j)) e l:=by
  rintro e l⟨rfl,U⟩;obtain⟨g,cp,m⟩:=s.seen U;exact⟨U.below s.size s.lt.1 s.mem.obs,s.keepS U,rfl,_,_,m⟩
 unfold Ca;by_cases Z:M.nH<=h
 ·rw[if_pos Z]
  refine(O8 base bC n c M.nO (.slice p.aO M.nO p.cO) (first (M.nO*2) (CR M.K M.V)) B d a b u h j k w I.lt J.lt I.cell J.cell o (fun l r=>?_)).mono C;have m:=s.below r;exact I7 base bC M.nO _ _ p.aH M.nH p.cH h j k true l hn m.size m.lt.2 m.neO m.c5 m.c8 (m.free 8) m.mem.obs AB
 ·rw[if_neg Z]
  have x:h<M.nH:=AB;have q:∀l,Bw w l->Calls Tryz.prog 134 #[Vq bC,Vi h,.int .u64 j,.int .u64 k,.bool true] l fun e y=>Seen base bC M.nO (.slice p.aO M.nO p.cO) (first (M.nO*2) (CR M.K M.V)) 1 j l y/\(if lies (M.Hp h).base j k (M.Hp h).len&&(!true||(M.Hp h).wr)then e=.returned (.slice (some ⟨p.blk h,(j-(M.Hp h).base).toNat,none⟩) k (p.cap h-(j-(M.Hp h).base).toNat))else e=.panicked [{v:=.iface 138 (.agg #[]),recovered:=false}]):=by
   intro l r;have m:=s.below r;obtain⟨bH,N,O,Q,S⟩:=m.heapAt x;have hp:=hk.heap h x;have X:=m.c5;rw[N]at X;exact Ka base bC bH (p.blk h) M.nO _ _ M.nH p.cH h (place M.Hp p.blk p.cap) j k true l hn m.size m.lt.2 m.neO Q O X m.c8 (m.free 8) m.mem.obs x S (by show(M.Hp h).len<=1048576;omega) hp.1 (by show(M.Hp h).base<=18446744073709551615;omega) z.1 z.2 E F (fun _=>rfl) (ET (m.mem.data h x)).2.1
  cases r:(lies (M.Hp h).base j k (M.Hp h).len&&(!true||(M.Hp h).wr))with
  |false=>
   rw[if_neg Aa];refine(O8 base bC n c M.nO (.slice p.aO M.nO p.cO) (first (M.nO*2) (CR M.K M.V)) B d a b u h j k w I.lt J.lt I.cell J.cell o (fun l A=>?_)).mono C;refine(q l A).mono ?_;rintro e y⟨L,D⟩;rw[r]at D;exact⟨by simpa using D,L⟩
  |true=>
   have hl:lies (M.Hp h).base j k (M.Hp h).len=true:=by
    rw[Bool.and_eq_true]at r;exact r.1
   rw[if_pos rfl];refine Tc s hk B d a b h u j k E F hd x I J o hl (fun l A=>?_);refine(q l A).mono ?_;rintro e y⟨L,D⟩;rw[r]at D;exact⟨by simpa using D,L⟩
end
end Go.Proofs.YtkckomianknjdaaGreat
