import Derived.Test.YtjoppncopoampaaGreatDoorOfCoreReg
import Derived.Test.YtjoppncopoampaaGreatDoorOfCoreDiv
import Derived.Test.YtjoppncopoampaaGreatDoorOfBytes
set_option maxHeartbeats 1000000
namespace Go.Proofs.YtjoppncopoampaaGreatDoor
open Go.RowKit
variable {L a b f h l n:Nat}{w:World}
def Such(S:World->Prop)(w:World):Prop:=S w
theorem Bc.ne{g:Nat}{v:Value}(h:Bc w b v a){e s Y:Nat}{d:List Value}(m:w.ownsRow l e s (Vs g n Y) n d)(k:e≠a):b≠g:=by
 rintro rfl;obtain⟨j,c⟩:=gN m;rw[h]at c;simp only[Option.some.injEq,Obj.cells.injEq]at c;exact k c.2.1.symm
theorem Bc.neOwn{v:Value}(h:Bc w b v a){e s:Nat}{u:Value}{d:List Value}(o:w.ownsRow l e s u n d)(m:e≠a):some b≠u.ownBlock:=by
 intro q;rcases o.2 with⟨rfl,_⟩|⟨g,j,k,rfl,_,c,_⟩
 ·simp[Value.ownBlock]at q
 ·simp only[Value.ownBlock,Option.some.injEq]at q
  subst q;rw[h]at c;simp only[Option.some.injEq,Obj.cells.injEq]at c;exact m c.2.1.symm
theorem MV.pokeN_len(M:MV)(h o:Nat)(v:Int):∀k,(M.pokeN h o v k).nH=M.nH/\(∀i,((M.pokeN h o v k).Hp i).len=(M.Hp i).len)/\(M.pokeN h o v k).R=M.R
 |0=>⟨rfl,fun _=>rfl,rfl⟩
 |k+1=>by
  obtain⟨a,b,c⟩:=MV.pokeN_len M h o v k;refine⟨a,fun i=>?_,c⟩;rw[<-b i];show(((M.pokeN h o v k).poke h (o+k) (v/2^(8*k)%256)).Hp i).len=_;unfold MV.poke;by_cases e:i=h<;>simp[e]
theorem Core.heapAt{c:Nat}{p:Pl}{nx:Int}{Q:List Value}{M:MV}(e:Core w l c p nx Q M)(r:h<M.nH):∃d,p.aH=some ⟨d,0,none⟩/\c≠d/\some d≠(Value.slice p.aO M.nO p.cO).ownBlock/\At w d 0 (M.nH*3) (CO (place M.Hp p.blk p.cap)):=by
 have a:=e.mem.heaps;obtain⟨k,o⟩:∃k,M.nH=k+1:=⟨M.nH-1,AB⟩
 have b:=a;rw[o]at b;obtain⟨g,n,m⟩:=KE b;simp only[Value.slice.injEq]at m;obtain⟨j,_,q⟩:=m;rw[j]at a;refine⟨g,j,?_,?_,(Fv a).2.2.2.at⟩
 ·have:=Fu (Aj e.core a Ad);simpa[Value.ownBlock]using this
 ·exact Fu (Aj a e.mem.obs Ad)
section
variable{w:World}{base bC:Nat}{p:Pl}{nx:Int}{tab:List Value}{M:MV}
theorem Yh(ak:∀Z w,(callFunc f Z).run Tryz.prog w=.ok (.enter f Z) w)(I:Core w base bC p nx tab M)(hk:M.Ok)(op:Int)(d a b h:Nat)(A m:Int)(c:Nat)(ax:1<=c)(ay:c<=8)(hd:d<8)(hh:h<M.nH)
 (kF:Bc w n (.func (.func f) #[] #[]) 255)(kW:Bc w L (.int .u64 c) 45)
 (aa:∀l,Below w.heap.size w l->Calls Tryz.prog f #[Vq bC,.agg #[Vi op,Vi d,Vi a,Vi b,Vi A,Vi h]] l fun e ab=>e=.returned (.int .u64 m)/\Below l.heap.size l ab)(hl:lies (M.Hp h).base m c (M.Hp h).len=true)
 (x:∀l,Below w.heap.size w l->Calls Tryz.prog 173 #[Vq bC,Vi h,.int .u64 m,.int .u64 c,.bool false] l fun e ab=>e=.returned (.slice (some ⟨p.blk h,(m-(M.Hp h).base).toNat,none⟩) c (p.cap h-(m-(M.Hp h).base).toNat))/\Seen base bC M.nO (.slice p.aO M.nO p.cO) (first (M.nO*2) (Dg M.K M.V)) 1 m l ab):
 Calls Tryz.prog 172 #[Vq bC,.agg #[Vi op,Vi d,Vi a,Vi b,Vi A,Vi h],Vq n,Vq L] w (Mf base bC tab w (.done ((M.see 1 m).setR d (Hu (M.Hp h).dat (m-(M.Hp h).base).toNat c)) nx)):=by
 have hF:=kF.lt;have hW:=kW.lt;have cF:=kF.cell;have cW:=kW.cell;have ag:=kF.ne I.core Ad;have ah:=kW.ne I.core Ad;have ai:=kF.neOwn I.mem.obs Ad;have aj:=kW.neOwn I.mem.obs Ad;have hC:=I.lt.2;have an:=I.neR;have az:=I.ltR.2;have nI:some w.heap.size≠(Value.slice p.aO M.nO p.cO).ownBlock:=fun q=>by have:=(I.mem.obs.lt _ q.symm).2;omega
 simp only[lies,Bool.and_eq_true,decide_eq_true_eq]at hl;have l1:=hl;have ap:(d:Int)<8:=AB;obtain⟨o,ho⟩:=Au ((m-(M.Hp h).base).toNat);rw[ho]at x;rw[ho];have au:o+c<=(M.Hp h).len:=AB;have al:=(hk.heap h hh).2.2.1;have Y:=hxy (hk.dat h hh);have ao:=hk.reg d hd;have H0:=hxy I;have r:=H0.out;have HK:Hid M.Ok:=hk;have am:=hxy kF;clear I hk kF kW l1 ho;go_enter Tryz.func172,Tryz.ntmps172;go_wp2_with fail;generalize J:w.alloc (.cells #[Vi op,Vi d,Vi a,Vi b,Vi A,Vi h] 109)=wb;have xb:Bw w wb:=by rw[<-J];exact Ai
 have xy:w.heap.size<wb.heap.size:=by rw[<-J];simp
 obtain⟨S,s⟩:∃S:World->Prop,S=fun l=>l.cell? ⟨w.heap.size,0,none⟩=some (Vi op)/\l.cell? ⟨w.heap.size,1,none⟩=some (Vi d)/\l.cell? ⟨w.heap.size,2,none⟩=some (Vi a)/\l.cell? ⟨w.heap.size,3,none⟩=some (Vi b)/\l.cell? ⟨w.heap.size,4,none⟩=some (Vi A)/\l.cell? ⟨w.heap.size,5,none⟩=some (Vi h)/\l.cell? (Va n 0)=some (.func (.func f) #[] #[])/\l.cell? (Va L 0)=some (.int .u64 c):=⟨_,rfl⟩
 have z:∀l,l.cell? ⟨w.heap.size,0,none⟩=some (Vi op)->l.cell? ⟨w.heap.size,1,none⟩=some (Vi d)->l.cell? ⟨w.heap.size,2,none⟩=some (Vi a)->l.cell? ⟨w.heap.size,3,none⟩=some (Vi b)->l.cell? ⟨w.heap.size,4,none⟩=some (Vi A)->l.cell? ⟨w.heap.size,5,none⟩=some (Vi h)->l.cell? (Va n 0)=some (.func (.func f) #[] #[])->l.cell? (Va L 0)=some (.int .u64 c)->Such S l:=by unfold Such;rw[s];exact fun l a0 a1 a2 a3 a4 a5 a6 a7=>⟨a0,a1,a2,a3,a4,a5,a6,a7⟩
 have F:∀l,Bw wb l->Such S l:=fun l h=>z l ((h.cell (p:=⟨w.heap.size,0,none⟩) xy).trans (by rw[<-J];simp[go_sem])) ((h.cell (p:=⟨w.heap.size,1,none⟩) xy).trans (by rw[<-J];simp[go_sem])) ((h.cell (p:=⟨w.heap.size,2,none⟩) xy).trans (by rw[<-J];simp[go_sem])) ((h.cell (p:=⟨w.heap.size,3,none⟩) xy).trans (by rw[<-J];simp[go_sem])) ((h.cell (p:=⟨w.heap.size,4,none⟩) xy).trans (by rw[<-J];simp[go_sem])) ((h.cell (p:=⟨w.heap.size,5,none⟩) xy).trans (by rw[<-J];simp[go_sem])) ((h.cell (p:=Va n 0) (by simp;omega)).trans ((xb.cell (p:=Va n 0) hF).trans cF)) ((h.cell (p:=Va L 0) (by simp;omega)).trans ((xb.cell (p:=Va L 0) hW).trans cW))
 have j0:∀l,Such S l->l.cell? ⟨w.heap.size,0,none⟩=some (Vi op):=fun l h=>by unfold Such at h;rw[s]at h;exact h.1
 have j1:∀l,Such S l->l.cell? ⟨w.heap.size,1,none⟩=some (Vi d):=fun l h=>by unfold Such at h;rw[s]at h;exact h.2.1
 have j2:∀l,Such S l->l.cell? ⟨w.heap.size,2,none⟩=some (Vi a):=fun l h=>by unfold Such at h;rw[s]at h;exact h.2.2.1
 have j3:∀l,Such S l->l.cell? ⟨w.heap.size,3,none⟩=some (Vi b):=fun l h=>by unfold Such at h;rw[s]at h;exact h.2.2.2.1
 have j4:∀l,Such S l->l.cell? ⟨w.heap.size,4,none⟩=some (Vi A):=fun l h=>by unfold Such at h;rw[s]at h;exact h.2.2.2.2.1
 have j5:∀l,Such S l->l.cell? ⟨w.heap.size,5,none⟩=some (Vi h):=fun l h=>by unfold Such at h;rw[s]at h;exact h.2.2.2.2.2.1
 have R0:∀l,Such S l->l.cell? (Va n 0)=some (.func (.func f) #[] #[]):=fun l h=>by unfold Such at h;rw[s]at h;exact h.2.2.2.2.2.2.1
 have R1:∀l,Such S l->l.cell? (Va L 0)=some (.int .u64 c):=fun l h=>by unfold Such at h;rw[s]at h;exact h.2.2.2.2.2.2.2
 have D:=hxy z;have u:=hxy F;have X:Hid _:=aa;have C:Hid _:=x;clear J cF cW s z F aa x;refine wp_region_held_drew (S:=Such S) AV (u _ (BJ.drew)) (fun hHeld=>?_);refine EX [0,1,2,3,4,5,7] ?_;refine wpAnyH_ready (rs:=[6]) AV AX ?_;refine AllReadyH.cons rfl (fun K hK=>?_) AllReadyH.nil;go_simp;refine(X _ (xb.trans (BJ.drew.mono (Nat.le_of_lt xy)))).mono ?_;rintro e B⟨rfl,R⟩;go_wp2_with fail;refine hK.out _ _ (u _ (BJ.drew.trans R)) (fun N=>?_);clear hK K;refine wpAnyH_ready (rs:=[8]) AV AX ?_;refine AllReadyH.cons rfl (fun K hK=>?_) AllReadyH.nil;go_simp;have xa:Bw w B:=xb.trans ((BJ.drew.trans R).mono (Nat.le_of_lt xy));refine(C _ xa).mono ?_;rintro e w2⟨rfl,hs⟩;have ya:wb.heap.size<=B.heap.size:=by have:=R.size;simpa using this
 have Q:=Seen.of_below xa hs;have hI:∀k,w2.cell? ⟨w.heap.size,k,none⟩=B.cell? ⟨w.heap.size,k,none⟩:=fun k=>hs.cell (a:=⟨w.heap.size,k,none⟩) (by simp;omega) (by simp;omega) nI
 have hJ:∀b,b<w.heap.size->b≠bC->some b≠(Value.slice p.aO M.nO p.cO).ownBlock->∀k,w2.cell? (Va b k)=B.cell? (Va b k):=fun b h1 h2 h3 k=>hs.cell (a:=Va b k) (by simp;omega) h2 h3
 have zI:w.heap.size<w2.heap.size:=by have:=hs.size;omega
 go_wp2_with fail;refine hK.out _ _ (D w2 ((hI 0).trans (j0 B (by assumption))) ((hI 1).trans (j1 B (by assumption))) ((hI 2).trans (j2 B (by assumption))) ((hI 3).trans (j3 B (by assumption))) ((hI 4).trans (j4 B (by assumption))) ((hI 5).trans (j5 B (by assumption))) ((hJ n hF ag ai 0).trans (R0 B (by assumption))) ((hJ L hW ah aj 0).trans (R1 B (by assumption)))) (fun O=>?_);clear hK K;refine AU 9 ?_;refine wpAnyH_done AV ?_ _;have ac:=r.seen Q;obtain⟨g,cp,U⟩:=ac;have e0:=U.c0;have rd:=U.reg hd;have fd:=U.freeR d;have zC:=U.lt.2;have zR:=U.ltR.2;have i1:w2.cell? ⟨w.heap.size,1,none⟩=some (Vi d):=j1 w2 (by assumption);have E:=Fv (U.mem.data h hh);have zD:=E.2.2.2.lt;have HD:Hid (∀k,k<c->w2.cell? ⟨p.blk h,o+k,none⟩=some (.int .u8 ((M.Hp h).dat (o+k)))):=fun k hk=>E.2.2.2.cell (by show o+k<(M.Hp h).len;omega)
 have HB:=hxy (Q.below r.size r.lt.1 r.mem.obs);have ad:=hxy (r.keepS Q);have H2:Hid _:=U;clear Q U E hs hI hJ hHeld R N O j0 j1 j2 j3 j4 j5 R0 R1 C X u D xa ya xb;go_wp2;go_loop [7,21](fun v i=>∃k:Nat,k<=c/\i=Vi k/\v=.int .u64 (Hu (M.Hp h).dat o k))(fun _ i=>c-(intOf i).toNat)
 case atStart=>exact⟨0,Nat.zero_le _,rfl,rfl⟩
 case round=>
  obtain⟨k,ar,rfl,rfl⟩:=hrel;by_cases ae:k<c
  ·have g0:=HD.out k ae
   have hr:=JY (M.Hp h).dat o k fun j hj=>Y.out (o+j) AB
   have hy:=Y.out (o+k) AB;have af:Hid (bits BinOp.or IntKind.u64 (Hu (M.Hp h).dat o k) ((M.Hp h).dat (o+k)*2^(8*k))=Hu (M.Hp h).dat o (k+1)):=sV AB hr.1 hr.2 hy.1 hy.2;have aw:=XQ (y:=(M.Hp h).dat (o+k)) (k:=k) AB hy.1 hy.2;have av:Hid (((M.Hp h).dat (o+k))*2^(8*k)=((M.Hp h).dat (o+k))*2^(8*k)):=rfl;go_wp2;go_round
   case rel=>exact⟨k+1,AB,by go_num,by rw[<-af.out]⟩
   case measure=>simp[intOf];omega
  ·obtain rfl:k=c:=AB
   go_wp2;go_region;all_goals
    go_end0;exact⟨(HB.setCell (p:=⟨p.bR,d,none⟩) (by simpa using H0.ltR.1) _).drew,ad.trans ((H2.keepR d _).trans (Keep.below BJ.drew)),rfl,_,(H2.setR d _).below BJ.drew⟩
theorem Vj(aE:∀ab w,(callFunc f ab).run Tryz.prog w=.ok (.enter f ab) w)(J:Core w base bC p nx tab M)(hk:M.Ok)(op:Int)(d a b h:Nat)(C c:Int)(l:Nat)(aQ:1<=l)(aR:l<=8)(hd:d<8)(hh:h<M.nH)
 (kF:Bc w n (.func (.func f) #[] #[]) 255)(kW:Bc w L (.int .u64 l) 45)
 (ac:∀m,Below w.heap.size w m->Calls Tryz.prog f #[Vq bC,.agg #[Vi op,Vi d,Vi a,Vi b,Vi C,Vi h]] m fun e ae=>e=.returned (.int .u64 c)/\Below m.heap.size m ae)(hl:lies (M.Hp h).base c l (M.Hp h).len=true)
 (z:∀m,Below w.heap.size w m->Calls Tryz.prog 173 #[Vq bC,Vi h,.int .u64 c,.int .u64 l,.bool true] m fun e ae=>e=.returned (.slice (some ⟨p.blk h,(c-(M.Hp h).base).toNat,none⟩) l (p.cap h-(c-(M.Hp h).base).toNat))/\Seen base bC M.nO (.slice p.aO M.nO p.cO) (first (M.nO*2) (Dg M.K M.V)) 1 c m ae):
 Calls Tryz.prog 174 #[Vq bC,.agg #[Vi op,Vi d,Vi a,Vi b,Vi C,Vi h],Vq n,Vq L] w (Mf base bC tab w (.done ((M.see 1 c).pokeN h (c-(M.Hp h).base).toNat (M.R d) l) nx)):=by
 have hF:=kF.lt;have hW:=kW.lt;have cF:=kF.cell;have cW:=kW.cell;have ay:=kF.ne J.core Ad;have az:=kW.ne J.core Ad;have aA:=kF.neOwn J.mem.obs Ad;have aB:=kW.neOwn J.mem.obs Ad;have hC:=J.lt.2;have aI:=J.neR;have aS:=J.ltR.2;have nI:some w.heap.size≠(Value.slice p.aO M.nO p.cO).ownBlock:=fun q=>by have:=(J.mem.obs.lt _ q.symm).2;omega
 simp only[lies,Bool.and_eq_true,decide_eq_true_eq]at hl;obtain⟨⟨l1,l2⟩,l3⟩:=hl;have aK:(d:Int)<8:=AB;obtain⟨o,ho⟩:=Au ((c-(M.Hp h).base).toNat);rw[ho]at z;rw[ho];have aP:o+l<=(M.Hp h).len:=AB;have aF:=(hk.heap h hh).2.2.1;have aC:Hid (∀j,j<(M.Hp h).len->0<=(M.Hp h).dat j/\(M.Hp h).dat j<=255):=hk.dat h hh;have av:=hk.reg d hd;have H0:=hxy J;have s:=H0.out;have HK:Hid M.Ok:=hk;have aH:=hxy kF;clear J hk kF kW l1 l2 l3 ho;go_enter Tryz.func174,Tryz.ntmps174;go_wp2_with fail;generalize N:w.alloc (.cells #[Vi op,Vi d,Vi a,Vi b,Vi C,Vi h] 109)=wb;have xb:Bw w wb:=by rw[<-N];exact Ai
 have xy:w.heap.size<wb.heap.size:=by rw[<-N];simp
 obtain⟨S,u⟩:∃S:World->Prop,S=fun m=>m.cell? ⟨w.heap.size,0,none⟩=some (Vi op)/\m.cell? ⟨w.heap.size,1,none⟩=some (Vi d)/\m.cell? ⟨w.heap.size,2,none⟩=some (Vi a)/\m.cell? ⟨w.heap.size,3,none⟩=some (Vi b)/\m.cell? ⟨w.heap.size,4,none⟩=some (Vi C)/\m.cell? ⟨w.heap.size,5,none⟩=some (Vi h)/\m.cell? (Va n 0)=some (.func (.func f) #[] #[])/\m.cell? (Va L 0)=some (.int .u64 l):=⟨_,rfl⟩
 have B:∀m,m.cell? ⟨w.heap.size,0,none⟩=some (Vi op)->m.cell? ⟨w.heap.size,1,none⟩=some (Vi d)->m.cell? ⟨w.heap.size,2,none⟩=some (Vi a)->m.cell? ⟨w.heap.size,3,none⟩=some (Vi b)->m.cell? ⟨w.heap.size,4,none⟩=some (Vi C)->m.cell? ⟨w.heap.size,5,none⟩=some (Vi h)->m.cell? (Va n 0)=some (.func (.func f) #[] #[])->m.cell? (Va L 0)=some (.int .u64 l)->Such S m:=by unfold Such;rw[u];exact fun m a0 a1 a2 a3 a4 a5 a6 a7=>⟨a0,a1,a2,a3,a4,a5,a6,a7⟩
 have I:∀m,Bw wb m->Such S m:=fun m h=>B m ((h.cell (p:=⟨w.heap.size,0,none⟩) xy).trans (by rw[<-N];simp[go_sem])) ((h.cell (p:=⟨w.heap.size,1,none⟩) xy).trans (by rw[<-N];simp[go_sem])) ((h.cell (p:=⟨w.heap.size,2,none⟩) xy).trans (by rw[<-N];simp[go_sem])) ((h.cell (p:=⟨w.heap.size,3,none⟩) xy).trans (by rw[<-N];simp[go_sem])) ((h.cell (p:=⟨w.heap.size,4,none⟩) xy).trans (by rw[<-N];simp[go_sem])) ((h.cell (p:=⟨w.heap.size,5,none⟩) xy).trans (by rw[<-N];simp[go_sem])) ((h.cell (p:=Va n 0) (by simp;omega)).trans ((xb.cell (p:=Va n 0) hF).trans cF)) ((h.cell (p:=Va L 0) (by simp;omega)).trans ((xb.cell (p:=Va L 0) hW).trans cW))
 have j0:∀m,Such S m->m.cell? ⟨w.heap.size,0,none⟩=some (Vi op):=fun m h=>by unfold Such at h;rw[u]at h;exact h.1
 have j1:∀m,Such S m->m.cell? ⟨w.heap.size,1,none⟩=some (Vi d):=fun m h=>by unfold Such at h;rw[u]at h;exact h.2.1
 have j2:∀m,Such S m->m.cell? ⟨w.heap.size,2,none⟩=some (Vi a):=fun m h=>by unfold Such at h;rw[u]at h;exact h.2.2.1
 have j3:∀m,Such S m->m.cell? ⟨w.heap.size,3,none⟩=some (Vi b):=fun m h=>by unfold Such at h;rw[u]at h;exact h.2.2.2.1
 have j4:∀m,Such S m->m.cell? ⟨w.heap.size,4,none⟩=some (Vi C):=fun m h=>by unfold Such at h;rw[u]at h;exact h.2.2.2.2.1
 have j5:∀m,Such S m->m.cell? ⟨w.heap.size,5,none⟩=some (Vi h):=fun m h=>by unfold Such at h;rw[u]at h;exact h.2.2.2.2.2.1
 have R0:∀m,Such S m->m.cell? (Va n 0)=some (.func (.func f) #[] #[]):=fun m h=>by unfold Such at h;rw[u]at h;exact h.2.2.2.2.2.2.1
 have R1:∀m,Such S m->m.cell? (Va L 0)=some (.int .u64 l):=fun m h=>by unfold Such at h;rw[u]at h;exact h.2.2.2.2.2.2.2
 have F:=hxy B;have y:=hxy I;have aa:Hid _:=ac;have E:Hid _:=z;clear N cF cW u B I ac z;refine wp_region_held_drew (S:=Such S) AV (y.out _ (BJ.drew)) (fun hHeld=>?_);refine EX [0,1,2,3,4,5,7] ?_;refine wpAnyH_ready (rs:=[6]) AV AX ?_;refine AllReadyH.cons rfl (fun K hK=>?_) AllReadyH.nil;go_simp;refine(aa.out _ (xb.trans (BJ.drew.mono (Nat.le_of_lt xy)))).mono ?_;rintro e D⟨rfl,X⟩;go_wp2_with fail;refine hK.out _ _ (y.out _ (BJ.drew.trans X)) (fun O=>?_);clear hK K;refine wpAnyH_ready (rs:=[8]) AV AX ?_;refine AllReadyH.cons rfl (fun K hK=>?_) AllReadyH.nil;go_simp;have xa:Bw w D:=xb.trans ((BJ.drew.trans X).mono (Nat.le_of_lt xy));refine(E.out _ xa).mono ?_;rintro e x⟨rfl,hs⟩;have ya:wb.heap.size<=D.heap.size:=by have:=X.size;simpa using this
 have U:Seen base bC M.nO (.slice p.aO M.nO p.cO) (first (M.nO*2) (Dg M.K M.V)) 1 c w x:=Seen.of_below xa hs;have hI:∀k,x.cell? ⟨w.heap.size,k,none⟩=D.cell? ⟨w.heap.size,k,none⟩:=fun k=>hs.cell (a:=⟨w.heap.size,k,none⟩) (by simp;omega) (by simp;omega) nI
 have hJ:∀b,b<w.heap.size->b≠bC->some b≠(Value.slice p.aO M.nO p.cO).ownBlock->∀k,x.cell? (Va b k)=D.cell? (Va b k):=fun b h1 h2 h3 k=>hs.cell (a:=Va b k) (by simp;omega) h2 h3
 have zI:w.heap.size<x.heap.size:=by have:=hs.size;omega
 go_wp2_with fail;refine hK.out _ _ (F.out x ((hI 0).trans (j0 D (by assumption))) ((hI 1).trans (j1 D (by assumption))) ((hI 2).trans (j2 D (by assumption))) ((hI 3).trans (j3 D (by assumption))) ((hI 4).trans (j4 D (by assumption))) ((hI 5).trans (j5 D (by assumption))) ((hJ n hF ay aA 0).trans (R0 D (by assumption))) ((hJ L hW az aB 0).trans (R1 D (by assumption)))) (fun Q=>?_);clear hK K;refine AU 9 ?_;refine wpAnyH_done AV ?_ _;have ar:=s.seen U;obtain⟨g,cp,Z⟩:=ar;have e0:x.cell? (Va bC 0)=some (Vs p.bR 8 p.cR):=Z.c0;have rd:x.cell? ⟨p.bR,d,none⟩=some (.int .u64 (M.R d)):=Z.reg hd;have fd:x.frozen? ⟨p.bR,d,none⟩=false:=Z.freeR d;have zC:bC<x.heap.size:=Z.lt.2;have zR:p.bR<x.heap.size:=Z.ltR.2;have i1:x.cell? ⟨w.heap.size,1,none⟩=some (Vi d):=j1 x (by assumption);have r:=Fv (Z.mem.data h hh);have zD:p.blk h<x.heap.size:=r.2.2.2.lt;have HD:Hid (∀k,k<l->x.cell? ⟨p.blk h,o+k,none⟩=some (.int .u8 ((M.Hp h).dat (o+k)))):=fun k hk=>r.2.2.2.cell (by show o+k<(M.Hp h).len;omega)
 have HB:Hid (Below base w x):=U.below s.size s.lt.1 s.mem.obs;have ag:Hid (Keep w x):=s.keepS U;have H2:Hid _:=Z;clear U Z r hs hI hJ hHeld X O Q j0 j1 j2 j3 j4 j5 R0 R1 E aa y F xa ya xb;have aJ:p.blk h<w.heap.size:=(H0.out.mem.data h hh).lt _ rfl|>.2;have aj:base<=p.blk h:=(H0.out.mem.data h hh).lt _ rfl|>.1;obtain⟨ai,aD⟩:=av;have ad:Hid (∀k,((M.see 1 c).pokeN h o (M.R d) k).nH=M.nH/\(∀i,(((M.see 1 c).pokeN h o (M.R d) k).Hp i).len=(M.Hp i).len)/\((M.see 1 c).pokeN h o (M.R d) k).R=M.R):=MV.pokeN_len (M.see 1 c) h o (M.R d);have ap:p.blk h≠w.heap.size:=AB;have au:Hid (p.blk h≠w.heap.size):=ap;clear ap;go_wp2;go_loopw [19](fun i wr=>∃k:Nat,k<=l/\i=Vi k/\Below base w wr/\Keep w wr/\w.heap.size<wr.heap.size/\wr.cell? ⟨w.heap.size,1,none⟩=some (Vi d)/\Core wr base bC {p with aO:=some ⟨g,0,none⟩,cO:=cp} nx tab ((M.see 1 c).pokeN h o (M.R d) k))(fun i _=>l-(intOf i).toNat)
 case atStart=>exact⟨0,Nat.zero_le _,rfl,HB.out,ag.out,zI,i1,H2.out⟩
 case round=>
  obtain⟨k,aM,rfl,ak,am,ax,aw,A⟩:=hrel;clear e0 rd fd zC zR i1 zD HD HB H2 ag zI;have HR:Hid _:=A;have af:Hid _:=ak;have ah:=hxy am;clear ak am;by_cases aN:k<l
  ·have Y:=ad.out k
   have r:=Fv (A.mem.data h (by rw[Y.1];exact hh));have an:=Y.2.1 h;have e0:wr.cell? (Va bC 0)=some (Vs p.bR 8 p.cR):=A.c0;have rd:wr.cell? ⟨p.bR,d,none⟩=some (.int .u64 (M.R d)):=(A.reg hd).trans (by rw[Y.2.2]);have zC:bC<wr.heap.size:=A.lt.2;have zR:p.bR<wr.heap.size:=A.ltR.2;have zD:p.blk h<wr.heap.size:=r.2.2.2.lt;have gD:wr.cell? ⟨p.blk h,o+k,none⟩=some (EU .u8 (((M.see 1 c).pokeN h o (M.R d) k).Hp h).dat (o+k)):=r.2.2.2.cell (by rw[an];omega);have fD:wr.frozen? ⟨p.blk h,o+k,none⟩=false:=r.2.2.2.free (o+k);have ao:(0:Int)<2^(8*k):=Int.pow_pos Ad;have al:0<=M.R d/2^(8*k):=Int.ediv_nonneg ai (Int.le_of_lt ao);have aG:=hxy al;unfold EU at gD;clear A r an Y al ao;go_wp2;go_region;all_goals
    go_wp2;go_roundw
    case rel=>
     refine⟨k+1,AB,by go_num,(af.out.setCell (p:=⟨p.blk h,o+k,none⟩) (by simpa using aj) _).drew,ah.out.trans ((HR.out.keepD (by rw[(ad.out k).1];exact hh) (o+k) _).trans (Keep.below BJ.drew)),by simpa using ax,?_,?_⟩
     ·exact(World.cell?_setCell_far _ _ _ _ (by simpa using au.out)).trans aw
     ·exact(HR.out.poke (by rw[(ad.out k).1];exact hh) (o+k) _).below BJ.drew
    case measure=>simp[intOf];omega
  ·obtain rfl:k=l:=AB
   go_wp2;go_end0;exact⟨af.out,ah.out,rfl,_,HR.out⟩
theorem SN(j:Core w base bC p nx tab M){Z m:Int}{d:Nat}(n:a<8):∀c,Below w.heap.size w c->Calls Tryz.prog 132 #[Vq bC,.agg #[Vi Z,Vi d,Vi a,Vi b,Vi m,Vi h]] c fun e l=>e=.returned (.int .u64 (FK M a m))/\Below c.heap.size c l:=fun c k=>KN bC p.bR p.cR a Z d b m h M.R c n (j.below k).lt.2 (j.below k).ltR.2 (j.below k).c0 ((j.below k).reg n)
theorem SI(j:Core w base bC p nx tab M){Z m:Int}{d:Nat}(n:a<8)(o:b<8):∀c,Below w.heap.size w c->Calls Tryz.prog 134 #[Vq bC,.agg #[Vi Z,Vi d,Vi a,Vi b,Vi m,Vi h]] c fun e l=>e=.returned (.int .u64 (FJ M a b))/\Below c.heap.size c l:=fun c k=>Kh bC p.bR p.cR a b Z d m h M.R c n o (j.below k).lt.2 (j.below k).ltR.2 (j.below k).c0 ((j.below k).reg n) ((j.below k).reg o)
theorem LG{c:Int}(q:∀x w,(callFunc f x).run Tryz.prog w=.ok (.enter f x) w)(y:Core w base bC p nx tab M)(hk:M.Ok)(J:Int)(d a b h:Nat)(s:Int)(j:Nat)(D:1<=j)(E:j<=8)(hn:M.nO<=1048576)(hd:d<8)(C:0<=c/\c<=18446744073709551615)(o:∀k,Below w.heap.size w k->Calls Tryz.prog f #[Vq bC,.agg #[Vi J,Vi d,Vi a,Vi b,Vi s,Vi h]] k fun e u=>e=.returned (.int .u64 c)/\Below k.heap.size k u)
 (F:Bc w n (.func (.func f) #[] #[]) 255)(I:Bc w L (.int .u64 j) 45):
 Calls Tryz.prog 172 #[Vq bC,.agg #[Vi J,Vi d,Vi a,Vi b,Vi s,Vi h],Vq n,Vq L] w (Mf base bC tab w (Cm false j c d h M nx)):=by
 have A:∀(e:Ending)(k:World),(e=.panicked [{v:=.iface 163 (.agg #[]),recovered:=false}]/\Seen base bC M.nO (.slice p.aO M.nO p.cO) (first (M.nO*2) (Dg M.K M.V)) 1 c w k)->Mf base bC tab w (.flt (M.see 1 c)) e k:=by
  rintro e k⟨rfl,X⟩;obtain⟨g,cp,l⟩:=y.seen X;exact⟨X.below y.size y.lt.1 y.mem.obs,y.keepS X,rfl,_,_,l⟩
 unfold Cm;by_cases Z:M.nH<=h
 ·rw[if_pos Z]
  refine(Uc q base bC n L M.nO (.slice p.aO M.nO p.cO) (first (M.nO*2) (Dg M.K M.V)) J d a b s h c j w F.lt I.lt F.cell I.cell o (fun k z=>?_)).mono A;have l:=y.below z;exact Qw base bC M.nO _ _ p.aH M.nH p.cH h c j false k hn l.size l.lt.2 l.neO l.c5 l.c8 (l.free 8) l.mem.obs AB
 ·rw[if_neg Z]
  have r:h<M.nH:=AB;have m:∀k,Bw w k->Calls Tryz.prog 173 #[Vq bC,Vi h,.int .u64 c,.int .u64 j,.bool false] k fun e u=>Seen base bC M.nO (.slice p.aO M.nO p.cO) (first (M.nO*2) (Dg M.K M.V)) 1 c k u/\(if lies (M.Hp h).base c j (M.Hp h).len&&(!false||(M.Hp h).wr)then e=.returned (.slice (some ⟨p.blk h,(c-(M.Hp h).base).toNat,none⟩) j (p.cap h-(c-(M.Hp h).base).toNat))else e=.panicked [{v:=.iface 163 (.agg #[]),recovered:=false}]):=by
   intro k z;have l:=y.below z;obtain⟨bH,O,Q,R,S⟩:=l.heapAt r;have hp:=hk.heap h r;have Y:=l.c5;rw[O]at Y;exact UA base bC bH (p.blk h) M.nO _ _ M.nH p.cH h (place M.Hp p.blk p.cap) c j false k hn l.size l.lt.2 l.neO R Q Y l.c8 (l.free 8) l.mem.obs r S (by show(M.Hp h).len<=1048576;omega) hp.1 (by show(M.Hp h).base<=18446744073709551615;omega) C.1 C.2 D E (fun _=>rfl) (Fv (l.mem.data h r)).2.1
  cases z:(lies (M.Hp h).base c j (M.Hp h).len&&(!false||(M.Hp h).wr))with
  |false=>
   rw[if_neg Ad];refine(Uc q base bC n L M.nO (.slice p.aO M.nO p.cO) (first (M.nO*2) (Dg M.K M.V)) J d a b s h c j w F.lt I.lt F.cell I.cell o (fun k U=>?_)).mono A;refine(m k U).mono ?_;rintro e u⟨N,B⟩;rw[z]at B;exact⟨by simpa using B,N⟩
  |true=>
   have hl:lies (M.Hp h).base c j (M.Hp h).len=true:=by
    rw[Bool.and_eq_true]at z;exact z.1
   rw[if_pos rfl];refine Yh q y hk J d a b h s c j D E hd r F I o hl (fun k U=>?_);refine(m k U).mono ?_;rintro e u⟨N,B⟩;rw[z]at B;exact⟨by simpa using B,N⟩
theorem Jy{c:Int}(q:∀x w,(callFunc f x).run Tryz.prog w=.ok (.enter f x) w)(y:Core w base bC p nx tab M)(hk:M.Ok)(J:Int)(d a b h:Nat)(s:Int)(j:Nat)(D:1<=j)(E:j<=8)(hn:M.nO<=1048576)(hd:d<8)(C:0<=c/\c<=18446744073709551615)(o:∀k,Below w.heap.size w k->Calls Tryz.prog f #[Vq bC,.agg #[Vi J,Vi d,Vi a,Vi b,Vi s,Vi h]] k fun e u=>e=.returned (.int .u64 c)/\Below k.heap.size k u)
 (F:Bc w n (.func (.func f) #[] #[]) 255)(I:Bc w L (.int .u64 j) 45):
 Calls Tryz.prog 174 #[Vq bC,.agg #[Vi J,Vi d,Vi a,Vi b,Vi s,Vi h],Vq n,Vq L] w (Mf base bC tab w (Cm true j c d h M nx)):=by
 have A:∀(e:Ending)(k:World),(e=.panicked [{v:=.iface 163 (.agg #[]),recovered:=false}]/\Seen base bC M.nO (.slice p.aO M.nO p.cO) (first (M.nO*2) (Dg M.K M.V)) 1 c w k)->Mf base bC tab w (.flt (M.see 1 c)) e k:=by
  rintro e k⟨rfl,X⟩;obtain⟨g,cp,l⟩:=y.seen X;exact⟨X.below y.size y.lt.1 y.mem.obs,y.keepS X,rfl,_,_,l⟩
 unfold Cm;by_cases Z:M.nH<=h
 ·rw[if_pos Z]
  refine(Qt q base bC n L M.nO (.slice p.aO M.nO p.cO) (first (M.nO*2) (Dg M.K M.V)) J d a b s h c j w F.lt I.lt F.cell I.cell o (fun k z=>?_)).mono A;have l:=y.below z;exact Qw base bC M.nO _ _ p.aH M.nH p.cH h c j true k hn l.size l.lt.2 l.neO l.c5 l.c8 (l.free 8) l.mem.obs AB
 ·rw[if_neg Z]
  have r:h<M.nH:=AB;have m:∀k,Bw w k->Calls Tryz.prog 173 #[Vq bC,Vi h,.int .u64 c,.int .u64 j,.bool true] k fun e u=>Seen base bC M.nO (.slice p.aO M.nO p.cO) (first (M.nO*2) (Dg M.K M.V)) 1 c k u/\(if lies (M.Hp h).base c j (M.Hp h).len&&(!true||(M.Hp h).wr)then e=.returned (.slice (some ⟨p.blk h,(c-(M.Hp h).base).toNat,none⟩) j (p.cap h-(c-(M.Hp h).base).toNat))else e=.panicked [{v:=.iface 163 (.agg #[]),recovered:=false}]):=by
   intro k z;have l:=y.below z;obtain⟨bH,O,Q,R,S⟩:=l.heapAt r;have hp:=hk.heap h r;have Y:=l.c5;rw[O]at Y;exact UA base bC bH (p.blk h) M.nO _ _ M.nH p.cH h (place M.Hp p.blk p.cap) c j true k hn l.size l.lt.2 l.neO R Q Y l.c8 (l.free 8) l.mem.obs r S (by show(M.Hp h).len<=1048576;omega) hp.1 (by show(M.Hp h).base<=18446744073709551615;omega) C.1 C.2 D E (fun _=>rfl) (Fv (l.mem.data h r)).2.1
  cases z:(lies (M.Hp h).base c j (M.Hp h).len&&(!true||(M.Hp h).wr))with
  |false=>
   rw[if_neg Ad];refine(Qt q base bC n L M.nO (.slice p.aO M.nO p.cO) (first (M.nO*2) (Dg M.K M.V)) J d a b s h c j w F.lt I.lt F.cell I.cell o (fun k U=>?_)).mono A;refine(m k U).mono ?_;rintro e u⟨N,B⟩;rw[z]at B;exact⟨by simpa using B,N⟩
  |true=>
   have hl:lies (M.Hp h).base c j (M.Hp h).len=true:=by
    rw[Bool.and_eq_true]at z;exact z.1
   rw[if_pos rfl];refine Vj q y hk J d a b h s c j D E hd r F I o hl (fun k U=>?_);refine(m k U).mono ?_;rintro e u⟨N,B⟩;rw[z]at B;exact⟨by simpa using B,N⟩
end
end Go.Proofs.YtjoppncopoampaaGreatDoor
