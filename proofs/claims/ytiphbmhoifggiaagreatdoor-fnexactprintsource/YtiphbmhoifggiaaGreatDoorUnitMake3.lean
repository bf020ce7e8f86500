import Derived.Test.YtiphbmhoifggiaaGreatDoorOfUnitMake2
import Derived.Test.YtiphbmhoifggiaaGreatDoorOfRegT
set_option maxHeartbeats 16000000
set_option maxRecDepth 20000
namespace Go.Proofs.YtiphbmhoifggiaaGreatDoor
open Go.RowKit
theorem RepN.kept2{L:Nat->SV}{w w':World}{S S':Nat->Prop}(hs:∀b,S b->b<w.heap.size->S' b)(hk:∀b,S b->b<w.heap.size->w'.heap[b]?=w.heap[b]?):∀(m:Nat){v:Value}{i te:Nat},RepN L m w S v i te->RepN L m w' S' v i te
 |0,_,_,_,h=>h
 |m+1,v,i,te,h=>by
  obtain⟨xs,⟨hr,hb⟩,hl,hx⟩:=h;refine⟨xs,⟨⟨hr.1,?_⟩,fun b h=>hs b (hb b h) (hr.lt b h).2⟩,hl,fun k x p h1 h2=>?_⟩
  ·rcases hr.2 with h|⟨g,cap,cur,rfl,h1,h2,h3⟩
   ·exact .inl h
   ·have hg:g<w.heap.size:=(Array.getElem?_eq_some_iff.1 h2).1
    exact .inr ⟨g,cap,cur,rfl,h1,(hk g (hb g rfl) hg).trans h2,h3⟩
  ·rcases hx k x p h1 h2 with q|⟨q,v1,v2,e,r1,r2⟩|⟨q,v1,e,r1⟩|q
   ·exact .inl q
   ·exact .inr (.inl ⟨q,v1,v2,e,r1.kept2 hs hk m,r2.kept2 hs hk m⟩)
   ·exact .inr (.inr (.inl ⟨q,v1,e,r1.kept2 hs hk m⟩))
   ·exact .inr (.inr (.inr q))
theorem NodeN.kept2{L:Nat->SV}{m:Nat}{w w':World}{S S':Nat->Prop}{x:Value}{p:Nat}(h:NodeN L m w S x p)(hs:∀b,S b->b<w.heap.size->S' b)(hk:∀b,S b->b<w.heap.size->w'.heap[b]?=w.heap[b]?):NodeN L m w' S' x p:=by
 rcases h with q|⟨q,v1,v2,e,r1,r2⟩|⟨q,v1,e,r1⟩|q
 ·exact .inl q
 ·exact .inr (.inl ⟨q,v1,v2,e,r1.kept2 hs hk m,r2.kept2 hs hk m⟩)
 ·exact .inr (.inr (.inl ⟨q,v1,e,r1.kept2 hs hk m⟩))
 ·exact .inr (.inr (.inr q))
def tmM(t te:Nat)(w:World):Nat:=if intOf ((w.cell? ⟨t,4,none⟩).getD undef)=0 then((te:Int)+1-intOf ((w.cell? ⟨t,5,none⟩).getD undef)).toNat else 0
theorem tmM_eq{w:World}{t b n cap:Nat}{own procs dmax err pos:Int}(te:Nat)(h:TmP w t b n cap own procs dmax err pos):tmM t te w=if err=0 then((te:Int)+1-pos).toNat else 0:=by
 obtain⟨_,_,_,_,c4,c5⟩:=tm_cells h;unfold tmM;rw[c4,c5];rfl
theorem wrong_zero{s:SV}{own procs dmax room depth:Int}(h:wrongI s own procs dmax room depth=0):stOK s procs=true/\s.thn<=room/\s.els<=room-s.thn/\¬((s.k=2∨s.k=3)/\dmax<depth)/\¬(s.k=4/\s.proc<=own):=by
 unfold wrongI at h;by_cases h1:stOK s procs=false
 ·rw[if_pos h1]at h;exact absurd h (by decide)
 by_cases h2:room<s.thn∨room-s.thn<s.els
 ·rw[if_neg h1,if_pos h2]at h;exact absurd h (by decide)
 by_cases h3:(s.k=2∨s.k=3)/\dmax<depth
 ·rw[if_neg h1,if_neg h2,if_pos h3]at h;exact absurd h (by decide)
 by_cases h4:s.k=4/\s.proc<=own
 ·rw[if_neg h1,if_neg h2,if_neg h3,if_pos h4]at h;exact absurd h (by decide)
 exact⟨by simpa using h1,by omega,by omega,h3,h4⟩
theorem wrong_chk{L:Nat->SV}{own procs dmax depth:Int}{p te:Nat}(h:p<te):chk L own procs (dmax+1) p te depth=if wrongI (L p) own procs dmax ((te:Int)-(p:Int)-1) depth≠0 then(wrongI (L p) own procs dmax ((te:Int)-(p:Int)-1) depth,(p:Int))else if(stR L own procs dmax p depth).1≠0 then stR L own procs dmax p depth else chk L own procs (dmax+1) (p+1+(L p).thn.toNat+(L p).els.toNat) te depth:=by
 unfold wrongI;by_cases h1:stOK (L p) procs=false
 ·rw[chk_bad h h1,if_pos h1,if_pos (by decide)]
 obtain⟨tp,ep⟩:=st_pos (by simpa using h1:stOK (L p) procs=true);by_cases h2:(te:Int)-(p:Int)-1<(L p).thn∨(te:Int)-(p:Int)-1-(L p).thn<(L p).els
 ·rw[chk_shape h h1 (by omega),if_neg h1,if_pos h2,if_pos (by decide)]
 have h2':p+1+(L p).thn.toNat+(L p).els.toNat<=te:=by omega
 by_cases h3:((L p).k=2∨(L p).k=3)/\dmax<depth
 ·rw[chk_deep h h1 h2' ⟨h3.1,by omega⟩,if_neg h1,if_neg h2,if_pos h3,if_pos (by decide)]
 have h3':¬(((L p).k=2∨(L p).k=3)/\dmax+1<=depth):=fun g=>h3 ⟨g.1,by omega⟩
 by_cases h4:(L p).k=4/\(L p).proc<=own
 ·rw[chk_rec h h1 h2' h3' h4,if_neg h1,if_neg h2,if_neg h3,if_pos h4,if_pos (by decide)]
 rw[chk_then h h1 h2' h3' h4,if_neg h1,if_neg h2,if_neg h3,if_neg h4,if_neg (show¬((0:Int)≠0)by decide)];unfold stR;by_cases z1:(chk L own procs (dmax+1) (p+1) (p+1+(L p).thn.toNat) (depth+1)).1≠0
 ·rw[if_pos z1,if_pos z1,if_pos z1]
 rw[if_neg z1,if_neg z1];by_cases z2:(chk L own procs (dmax+1) (p+1+(L p).thn.toNat) (p+1+(L p).thn.toNat+(L p).els.toNat) (depth+1)).1≠0
 ·rw[if_pos z2,if_pos z2,if_pos z2]
 rw[if_neg z2,if_neg z2,if_neg (by simp)]
theorem stR_zero{L:Nat->SV}{own procs dmax depth:Int}{p:Nat}(h:(stR L own procs dmax p depth).1=0):stR L own procs dmax p depth=(0,((p+1+(L p).thn.toNat+(L p).els.toNat:Nat):Int)):=by
 unfold stR at h⊢;by_cases z1:(chk L own procs (dmax+1) (p+1) (p+1+(L p).thn.toNat) (depth+1)).1≠0
 ·rw[if_pos z1]at h;exact absurd h z1
 rw[if_neg z1]at h⊢;by_cases z2:(chk L own procs (dmax+1) (p+1+(L p).thn.toNat) (p+1+(L p).thn.toNat+(L p).els.toNat) (depth+1)).1≠0
 ·rw[if_pos z2]at h;exact absurd h z2
 rw[if_neg z2]
theorem stR_flat{L:Nat->SV}{own procs dmax depth:Int}{p:Nat}(h1:(L p).thn=0)(h2:(L p).els=0):stR L own procs dmax p depth=(0,(p:Int)+1):=by
 unfold stR;rw[h1,h2,chk_end (by simp),chk_end (by simp)];simp
theorem row_slice{w:World}{base e size n:Nat}{v:Value}{xs:List Value}(h:w.ownsRow base e size v n xs):∃(ao:Option Addr)(k c:Nat),v=.slice ao k c:=by
 rcases h.2 with⟨h',_⟩|⟨g,cap,cur,rfl,_⟩
 ·exact⟨_,_,_,h'⟩
 ·exact⟨_,_,_,rfl⟩
def BInv(L:Nat->SV)(t b n cap:Nat)(own procs dmax:Int)(m i te:Nat)(depth:Int)(w:World)(mv:Value)(wr:World):Prop:=
 ∃(xs:List Value)(errv posv:Int),Ft t w wr/\TmP wr t b n cap own procs dmax errv posv/\wr.ownsRow 0 118 1 mv xs.length xs/\(∀g,mv.ownBlock=some g->w.heap.size<=g)/\((errv≠0/\chk L own procs (dmax+1) i te depth=(errv,posv))∨(errv=0/\∃(p:Nat)(dn:List Nat),posv=(p:Int)/\i<=p/\p<=te/\chk L own procs (dmax+1) p te depth=chk L own procs (dmax+1) i te depth/\tops L i te=dn++tops L p te/\xs.length=dn.length/\xs.length<=p/\∀(k:Nat)(x:Value)(q:Nat),xs[k]?=some x->dn[k]?=some q->NodeN L m wr (fun g=>w.heap.size<=g/\mv.ownBlock≠some g) x q))
theorem BInv.ends{L:Nat->SV}{t b n cap:Nat}{own procs dmax:Int}{m i te:Nat}{depth:Int}{w:World}{mv:Value}{wr:World}{xs:List Value}{errv posv:Int}{res:Int×Int}{ps:Int}(hres:chk L own procs (dmax+1) i te depth=res)(hps:(if res.1=0 then(te:Int)else res.2)=ps)(f:Ft t w wr)(T:TmP wr t b n cap own procs dmax errv posv)(o:wr.ownsRow 0 118 1 mv xs.length xs)(ob:∀g,mv.ownBlock=some g->w.heap.size<=g)
 (hc:(errv≠0/\chk L own procs (dmax+1) i te depth=(errv,posv))∨(errv=0/\posv=(te:Int)/\∃dn:List Nat,chk L own procs (dmax+1) i te depth=(0,0)/\tops L i te=dn/\xs.length=dn.length/\∀(k:Nat)(x:Value)(q:Nat),xs[k]?=some x->dn[k]?=some q->NodeN L m wr (fun g=>w.heap.size<=g/\mv.ownBlock≠some g) x q)):
 ∃(ao:Option Addr)(k c:Nat),(Ending.returned mv)=.returned (.slice ao k c)/\Ft t w wr/\TmP wr t b n cap own procs dmax res.1 ps/\(res.1=0->RepN L (m+1) wr (fun q=>w.heap.size<=q) (.slice ao k c) i te):=by
 subst hps hres;obtain⟨ao,k,c,rfl⟩:=row_slice o;refine⟨ao,k,c,rfl,f,?_,fun h0=>?_⟩
 ·rcases hc with⟨h1,h2⟩|⟨h1,h2,dn,h3,_⟩
  ·rw[h2]
   simp only[if_neg h1];exact T
  ·rw[h3]
   simp only[if_true];rw[<-h1,<-h2];exact T
 ·rcases hc with⟨h1,h2⟩|⟨h1,h2,dn,h3,h4,h5,h6⟩
  ·rw[h2]at h0;exact absurd h0 h1
  ·refine⟨xs,⟨o,ob⟩,by rw[h4];exact h5,fun k x p hk hp=>?_⟩
   rw[h4]at hp;exact(h6 k x p hk hp).kept2 (fun b h _=>h.1) (fun _ _ _=>rfl)
theorem info_statement:(Tryz.prog.info? 118).map (fun i=>(i.zero,i.size,i.bytes))=some (some .nilIface,1,16):=by kernel_rfl
theorem Ft.grown{t:Nat}{w u w1:World}{ob:Option Nat}(h:Ft t w u)(g:u.grownBy w1 ob)(ho:∀k,ob=some k->w.heap.size<=k):Ft t w w1:=
 ⟨g.os.trans h.os,g.tape.trans h.tape,g.output.trans h.output,Nat.le_trans h.size g.size,fun k hk hn=>(g.block k (Nat.lt_of_lt_of_le hk h.size) (fun e=>by have:=ho k e.symm;omega)).trans (h.block k hk hn)⟩
theorem TmP.grown{t b n cap:Nat}{own procs dmax err pos:Int}{u w1:World}{ob:Option Nat}(h:TmP u t b n cap own procs dmax err pos)(g:u.grownBy w1 ob)(ho:ob≠some t):TmP w1 t b n cap own procs dmax err pos:=
 have e:w1.heap[t]?=u.heap[t]?:=g.block t h.C.1 (fun e=>ho e.symm)
 ⟨⟨Nat.lt_of_lt_of_le h.C.1 g.size,fun i hi=>(World.cell?_of_block (a:=⟨t,i,none⟩) e).trans (h.C.2 i hi)⟩,fun i=>(World.frozen?_of_block (a:=⟨t,i,none⟩) e).trans (h.F i)⟩
theorem row_ft{t:Nat}{w w':World}{base e size n:Nat}{v:Value}{xs:List Value}(h:w.ownsRow base e size v n xs)(f:Ft t w w')(hn:v.ownBlock≠some t):w'.ownsRow base e size v n xs:=by
 refine⟨h.1,?_⟩;rcases h.2 with h'|⟨g,cap,cur,rfl,h1,h2,h3⟩
 ·exact .inl h'
 ·have hg:g<w.heap.size:=(Array.getElem?_eq_some_iff.1 h2).1
  exact .inr ⟨g,cap,cur,rfl,h1,(f.block g hg (fun e=>hn (by rw[e];rfl))).trans h2,h3⟩
theorem BInv.bad{L:Nat->SV}{t b n cap:Nat}{own procs dmax:Int}{m i te p:Nat}{depth:Int}{w wr u3:World}{mv:Value}{xs:List Value}(lt:t<w.heap.size)(F0:Ft t w wr)(O0:wr.ownsRow 0 118 1 mv xs.length xs)(OB:∀g,mv.ownBlock=some g->w.heap.size<=g)(hpt:p<te)
 (hc:chk L own procs (dmax+1) p te depth=chk L own procs (dmax+1) i te depth)(F3:Ft t wr u3)(T3:TmP u3 t b n cap own procs dmax (wrongI (L p) own procs dmax ((te:Int)-(p:Int)-1) depth) (p:Int))(hw:wrongI (L p) own procs dmax ((te:Int)-(p:Int)-1) depth≠0):
 BInv L t b n cap own procs dmax m i te depth w mv u3/\tmM t te u3=0:=by
 refine⟨⟨xs,_,_,F0.trans F3,T3,row_ft O0 F3 (fun e=>by have:=OB t e;omega),OB,.inl ⟨hw,?_⟩⟩,?_⟩
 ·rw[<-hc,wrong_chk hpt,if_pos hw]
 ·rw[tmM_eq te T3,if_neg hw]
theorem BInv.more{L:Nat->SV}{t b n cap:Nat}{own procs dmax:Int}{m i te p:Nat}{depth:Int}{w wr u3 u4 w1:World}{mv v' x:Value}{xs:List Value}{dn:List Nat}{bl:Obj}(lt:t<w.heap.size)(F0:Ft t w wr)(O0:wr.ownsRow 0 118 1 mv xs.length xs)(OB:∀g,mv.ownBlock=some g->w.heap.size<=g)(hip:i<=p)(hpt:p<te)
 (hc:chk L own procs (dmax+1) p te depth=chk L own procs (dmax+1) i te depth)(ht:tops L i te=dn++tops L p te)(hl:xs.length=dn.length)(hx:xs.length<=p)(N0:∀(k:Nat)(x:Value)(q:Nat),xs[k]?=some x->dn[k]?=some q->NodeN L m wr (fun g=>w.heap.size<=g/\mv.ownBlock≠some g) x q)
 (F3:Ft t wr u3)(F4:Ft t u3 u4)(T4:TmP u4 t b n cap own procs dmax (stR L own procs dmax p depth).1 (stR L own procs dmax p depth).2)(N4:(stR L own procs dmax p depth).1=0->NodeN L m u4 (fun q=>u3.heap.size<=q) x p)
 (hw:wrongI (L p) own procs dmax ((te:Int)-(p:Int)-1) depth=0)(O1:w1.ownsRow 0 118 1 v' (xs.length+1) (xs++[x]))(G:(u4.alloc bl).grownBy w1 mv.ownBlock)(ha:v'.ownBlock=mv.ownBlock∨v'.ownBlock=some (u4.heap.size+1)):
 BInv L t b n cap own procs dmax m i te depth w v' w1/\tmM t te w1<te+1-p:=by
 obtain⟨hok,h1,h2,_,_⟩:=wrong_zero hw;obtain⟨tp,ep⟩:=st_pos hok;have bA:Below u4.heap.size u4 (u4.alloc bl):=(Below.refl _ _).alloc (Nat.le_refl _) _;have zA:(u4.alloc bl).heap.size=u4.heap.size+1:=by simp
 have z0:=F0.size;have z3:=F3.size;have z4:=F4.size;have FU:Ft t w (u4.alloc bl):=((F0.trans F3).trans F4).trans (Ft.of_below bA);have F1:Ft t w w1:=FU.grown G OB;have T1:=(T4.below bA).grown G (fun e=>by have:=OB t e;omega);have OB1:∀g,v'.ownBlock=some g->w.heap.size<=g:=fun g hg=>by
  rcases ha with e|e
  ·exact OB g (e▸hg)
  ·rw[e]at hg;have:=Option.some.inj hg;omega
 have hlen:(xs++[x]).length=xs.length+1:=by simp
 have O1':w1.ownsRow 0 118 1 v' (xs++[x]).length (xs++[x]):=by rw[hlen];exact O1
 by_cases hs:(stR L own procs dmax p depth).1=0
 rotate_left
 ·refine⟨⟨_,_,_,F1,T1,O1',OB1,.inl ⟨hs,?_⟩⟩,?_⟩
  ·rw[<-hc,wrong_chk hpt,if_neg (by simpa using hw),if_pos hs]
  ·rw[tmM_eq te T1,if_neg hs];omega
 ·have hz:=stR_zero hs
  have N4':=N4 hs;rw[hz]at T1;refine⟨⟨_,_,_,F1,T1,O1',OB1,.inr ⟨rfl,p+1+(L p).thn.toNat+(L p).els.toNat,dn++[p],rfl,by omega,by omega,?_,?_,by simp[hl],by omega,?_⟩⟩,?_⟩
  ·rw[<-hc,wrong_chk hpt,if_neg (by simpa using hw),if_neg (by simpa using hs)]
  ·rw[ht,tops_more hpt];simp
  ·intro k x' q hk hq
   by_cases e:k<xs.length
   ·rw[List.getElem?_append_left e]at hk
    rw[List.getElem?_append_left (by omega)]at hq;refine(N0 k x' q hk hq).kept2 (fun g⟨g1,g2⟩hg=>⟨g1,fun e'=>?_⟩) (fun g⟨g1,g2⟩hg=>?_)
    ·rcases ha with e2|e2
     ·exact g2 (e2▸e')
     ·rw[e2]at e';have:=Option.some.inj e';omega
    ·exact(G.block g (by omega) (fun e'=>g2 e'.symm)).trans ((bA.block g (by omega)).trans ((F4.block g (by omega) (by omega)).trans (F3.block g hg (by omega))))
   ·have ek:k=xs.length:=by
     have:=(List.getElem?_eq_some_iff.1 hk).1;simp at this;omega
    subst ek;simp at hk;rw[hl]at hq;simp at hq;subst hk hq;refine N4'.kept2 (fun g g1 hg=>⟨by omega,fun e'=>?_⟩) (fun g g1 hg=>?_)
    ·rcases ha with e2|e2
     ·rw[e2]at e';have:=(O0.lt g e').2;omega
     ·rw[e2]at e';have:=Option.some.inj e';omega
    ·exact(G.block g (by omega) (fun e'=>by have:=(O0.lt g e'.symm).2;omega)).trans (bA.block g hg)
  ·rw[tmM_eq te T1,if_pos rfl];omega
theorem blockOf_go(L:Nat->SV)(t b n cap:Nat)(own procs dmax:Int)(m i te:Nat)(depth:Int)(hbt:b≠t)(ln:n<=1048576)(hit:i<=te)(htn:te<=n)
 (hS:∀p,i<=p->p<te->wrongI (L p) own procs dmax ((te:Int)-(p:Int)-1) depth=0->StmtC L t b n cap own procs dmax m p depth):BlockC L t b n cap own procs dmax (m+1) i te depth:=by
 intro w hA hT
 obtain⟨res,hres⟩:∃x,chk L own procs (dmax+1) i te depth=x:=⟨_,rfl⟩
 rw[hres]
 have HRES:Hid (chk L own procs (dmax+1) i te depth=res):=hres
 obtain⟨ps,hps⟩:∃y:Int,(if res.1=0 then(te:Int)else res.2)=y:=⟨_,rfl⟩
 rw[hps]
 have HPS:Hid ((if res.1=0 then(te:Int)else res.2)=ps):=hps
 clear hres hps
 have HS:Hid _:=hS
 have HA:Hid (Arr w b (n*11) (stF L)):=hA
 have HT:Hid (TmP w t b n cap own procs dmax 0 (i:Int)):=hT
 have lt:=hT.C.1
 have lb:=hA.1
 obtain⟨q0,q1,q2,q3,q4,q5⟩:=tm_cells hT
 clear hA hT hS
 have fe:IntKind.i64.wrap ((i:Int)+((te:Int)-(i:Int)))=(te:Int):=by rw[IntKind.wrap_i64];omega
 go_enter Tryz.func49,Tryz.ntmps49
 go_wp2
 clear q0 q1 q2 q3 q4 q5
 try rw[show(i:Int)+((te:Int)-(i:Int))=(te:Int)by omega]
 go_loopw [7](fun mv wr=>BInv L t b n cap own procs dmax m i te depth w mv wr)(fun _ wr=>tmM t te wr)
 case atStart=>exact⟨[],0,_,Ft.refl _ _,HT.out,⟨by simp,.inl ⟨rfl,by simp⟩⟩,(fun g hg=>by cases hg),.inr ⟨rfl,i,[],rfl,Nat.le_refl _,hit,rfl,rfl,rfl,Nat.zero_le _,fun k x q h=>by simp at h⟩⟩
 case round=>
  obtain⟨xs,errv,posv,f0,t0,o0,ob0,hcase⟩:=hrel
  obtain⟨ao7,k7,c7,rfl⟩:=row_slice o0
  have F0:Hid (Ft t w wr):=f0
  have O0:Hid (wr.ownsRow 0 118 1 (.slice ao7 k7 c7) xs.length xs):=o0
  have OB0:Hid (∀g,(Value.slice ao7 k7 c7).ownBlock=some g->w.heap.size<=g):=ob0
  have T0:Hid (TmP wr t b n cap own procs dmax errv posv):=t0
  clear f0 o0 ob0 t0
  obtain⟨q0,q1,q2,q3,q4,q5⟩:=tm_cells T0.out
  have tl:=T0.out.C.1
  have tf:=T0.out.F
  rcases hcase with⟨he,hce⟩|⟨he,p,dn,hpos,hip,hpt,hcp,htp,hln,hxp,hnp⟩
  ·have e0:(errv==0)=false:=by simp[he]
   have HE:Hid (errv≠0/\chk L own procs (dmax+1) i te depth=(errv,posv)):=⟨he,hce⟩
   clear he hce
   go_wp2
   go_ret
   exact BInv.ends (L:=L) (m:=m) (i:=i) (te:=te) (depth:=depth) HRES.out HPS.out F0.out T0.out O0.out OB0.out (.inl HE.out)
  subst he hpos
  have HC:Hid (chk L own procs (dmax+1) p te depth=chk L own procs (dmax+1) i te depth):=hcp
  have HTP:Hid (tops L i te=dn++tops L p te):=htp
  have HLN:Hid (xs.length=dn.length):=hln
  have HN:Hid (∀(k:Nat)(x:Value)(q:Nat),xs[k]?=some x->dn[k]?=some q->NodeN L m wr (fun g=>w.heap.size<=g/\(Value.slice ao7 k7 c7).ownBlock≠some g) x q):=hnp
  clear hcp htp hln hnp
  by_cases hlt:p<te
  rotate_left
  ·have hlt':¬(p:Int)<(te:Int):=by omega
   go_wp2
   go_ret
   refine BInv.ends (L:=L) (m:=m) (i:=i) (te:=te) (depth:=depth) HRES.out HPS.out F0.out T0.out O0.out OB0.out (.inr ⟨rfl,by omega,dn,?_,?_,HLN.out,HN.out⟩)
   ·rw[<-HC.out,chk_end hlt]
   ·rw[HTP.out,tops_end hlt];simp
  have hlt':(p:Int)<(te:Int):=by omega
  have hpn:(p:Int)<(n:Int):=by omega
  go_upto_region 4 with fail
  clear q0 q1 q2 q3 q4 q5
  have A0:Hid (Arr wr b (n*11) (stF L)):=F0.out.arr HA.out hbt
  have r0:∀w',Below wr.heap.size wr w'->w'.cell? ⟨t,0,none⟩=some (.slice (some ⟨b,0,none⟩) n cap):=fun w' h=>(T0.out.below h).C.2 0 (by simp)
  have r5:∀w',Below wr.heap.size wr w'->w'.cell? ⟨t,5,none⟩=some (.int .i64 (p:Int)):=fun w' h=>(T0.out.below h).C.2 5 (by simp)
  have s0:∀w',Below wr.heap.size wr w'->w'.cell? ⟨b,p*11,none⟩=some (.int .i64 (L p).k):=fun w' h=>(st_at (n:=n) (A0.out.below h A0.out.lt) p (by omega)).1
  have s1:∀w',Below wr.heap.size wr w'->w'.cell? ⟨b,p*11+1,none⟩=some (.int .i64 (L p).op):=fun w' h=>(st_at (n:=n) (A0.out.below h A0.out.lt) p (by omega)).2.1
  have s2:∀w',Below wr.heap.size wr w'->w'.cell? ⟨b,p*11+2,none⟩=some (.int .i64 (L p).d):=fun w' h=>(st_at (n:=n) (A0.out.below h A0.out.lt) p (by omega)).2.2.1
  have s3:∀w',Below wr.heap.size wr w'->w'.cell? ⟨b,p*11+3,none⟩=some (.int .i64 (L p).a):=fun w' h=>(st_at (n:=n) (A0.out.below h A0.out.lt) p (by omega)).2.2.2.1
  have s4:∀w',Below wr.heap.size wr w'->w'.cell? ⟨b,p*11+4,none⟩=some (.int .i64 (L p).b):=fun w' h=>(st_at (n:=n) (A0.out.below h A0.out.lt) p (by omega)).2.2.2.2.1
  have s5:∀w',Below wr.heap.size wr w'->w'.cell? ⟨b,p*11+5,none⟩=some (.int .i64 (L p).imm):=fun w' h=>(st_at (n:=n) (A0.out.below h A0.out.lt) p (by omega)).2.2.2.2.2.1
  have s6:∀w',Below wr.heap.size wr w'->w'.cell? ⟨b,p*11+6,none⟩=some (.int .i64 (L p).h):=fun w' h=>(st_at (n:=n) (A0.out.below h A0.out.lt) p (by omega)).2.2.2.2.2.2.1
  have s7:∀w',Below wr.heap.size wr w'->w'.cell? ⟨b,p*11+7,none⟩=some (.int .i64 (L p).cond):=fun w' h=>(st_at (n:=n) (A0.out.below h A0.out.lt) p (by omega)).2.2.2.2.2.2.2.1
  have s8:∀w',Below wr.heap.size wr w'->w'.cell? ⟨b,p*11+8,none⟩=some (.int .i64 (L p).thn):=fun w' h=>(st_at (n:=n) (A0.out.below h A0.out.lt) p (by omega)).2.2.2.2.2.2.2.2.1
  have s9:∀w',Below wr.heap.size wr w'->w'.cell? ⟨b,p*11+9,none⟩=some (.int .i64 (L p).els):=fun w' h=>(st_at (n:=n) (A0.out.below h A0.out.lt) p (by omega)).2.2.2.2.2.2.2.2.2.1
  have s10:∀w',Below wr.heap.size wr w'->w'.cell? ⟨b,p*11+10,none⟩=some (.int .i64 (L p).proc):=fun w' h=>(st_at (n:=n) (A0.out.below h A0.out.lt) p (by omega)).2.2.2.2.2.2.2.2.2.2
  refine wp_region_held_drew (S:=fun w'=>Below wr.heap.size wr w') (by kernel_rfl) (Below.refl _ _).drew (fun hd0=>?_)
  generalize wr.drew=v0 at hd0⊢
  refine wpAnyH_tk 0 ?k1v rfl ?k1y ?k1r
  case k1y=>(intro w hSw;(try dsimp only at hSw);go_simp;try with_reducible rfl)
  try simp only[Act.put,List.getElem_toArray,List.getElem_cons_zero,List.setIfInBounds_toArray,List.set_cons_zero,List.set_cons_succ]
  refine wpAnyH_tk 1 ?k2v rfl ?k2y ?k2r
  case k2y=>(intro w hSw;(try dsimp only at hSw);go_simp;try with_reducible rfl)
  try simp only[Act.put,List.getElem_toArray,List.getElem_cons_zero,List.getElem_cons_succ,List.setIfInBounds_toArray,List.set_cons_zero,List.set_cons_succ]
  refine wpAnyH_tk 2 ?k3v rfl ?k3y ?k3r
  case k3y=>(intro w hSw;(try dsimp only at hSw);go_simp;try with_reducible rfl)
  try simp only[Act.put,List.getElem_toArray,List.getElem_cons_zero,List.getElem_cons_succ,List.setIfInBounds_toArray,List.set_cons_zero,List.set_cons_succ]
  refine wpAnyH_tk 3 ?k4v rfl ?k4y ?k4r
  case k4y=>(intro w hSw;(try dsimp only at hSw);go_simp;try with_reducible rfl)
  try simp only[Act.put,List.getElem_toArray,List.getElem_cons_zero,List.getElem_cons_succ,List.setIfInBounds_toArray,List.set_cons_zero,List.set_cons_succ]
  refine wpAnyH_tk 4 ?k5v rfl ?k5y ?k5r
  case k5y=>(intro w hSw;(try dsimp only at hSw);go_simp;try with_reducible rfl)
  try simp only[Act.put,List.getElem_toArray,List.getElem_cons_zero,List.getElem_cons_succ,List.setIfInBounds_toArray,List.set_cons_zero,List.set_cons_succ]
  refine wpAnyH_tk 5 ?k6v rfl ?k6y ?k6r
  case k6y=>(intro w hSw;(try dsimp only at hSw);go_simp;try with_reducible rfl)
  try simp only[Act.put,List.getElem_toArray,List.getElem_cons_zero,List.getElem_cons_succ,List.setIfInBounds_toArray,List.set_cons_zero,List.set_cons_succ]
  refine wpAnyH_tk 6 ?k7v rfl ?k7y ?k7r
  case k7y=>(intro w hSw;(try dsimp only at hSw);go_simp;try with_reducible rfl)
  try simp only[Act.put,List.getElem_toArray,List.getElem_cons_zero,List.getElem_cons_succ,List.setIfInBounds_toArray,List.set_cons_zero,List.set_cons_succ]
  refine wpAnyH_tk 7 ?k8v rfl ?k8y ?k8r
  case k8y=>(intro w hSw;(try dsimp only at hSw);go_simp;try with_reducible rfl)
  try simp only[Act.put,List.getElem_toArray,List.getElem_cons_zero,List.getElem_cons_succ,List.setIfInBounds_toArray,List.set_cons_zero,List.set_cons_succ]
  refine wpAnyH_tk 8 ?k9v rfl ?k9y ?k9r
  case k9y=>(intro w hSw;(try dsimp only at hSw);go_simp;try with_reducible rfl)
  try simp only[Act.put,List.getElem_toArray,List.getElem_cons_zero,List.getElem_cons_succ,List.setIfInBounds_toArray,List.set_cons_zero,List.set_cons_succ]
  refine wpAnyH_tk 9 ?k10v rfl ?k10y ?k10r
  case k10y=>(intro w hSw;(try dsimp only at hSw);go_simp;try with_reducible rfl)
  try simp only[Act.put,List.getElem_toArray,List.getElem_cons_zero,List.getElem_cons_succ,List.setIfInBounds_toArray,List.set_cons_zero,List.set_cons_succ]
  refine wpAnyH_ready (rs:=[10]) (by kernel_rfl) (by simp) ?_
  refine AllReadyH.cons rfl (fun KK hK=>?_) AllReadyH.nil
  go_simp
  refine hK.out _ _ (hd0.alloc hd0.size _) (fun hHeld=>?_)
  clear hK KK
  try simp only[Act.put,List.getElem_toArray,List.getElem_cons_zero,List.getElem_cons_succ,List.setIfInBounds_toArray,List.set_cons_zero,List.set_cons_succ]
  refine wpAnyH_ready (rs:=[11]) (by kernel_rfl) (by simp) ?_
  refine AllReadyH.cons rfl (fun KK hK=>?_) AllReadyH.nil
  go_simp
  refine hK.out _ _ (hd0.alloc hd0.size _) (fun hHeld=>?_)
  clear hK KK
  try simp only[Act.put,List.getElem_toArray,List.getElem_cons_zero,List.getElem_cons_succ,List.setIfInBounds_toArray,List.set_cons_zero,List.set_cons_succ]
  refine wpAnyH_done (by kernel_rfl) ?_ _
  obtain⟨u1,hu1,hb1,hc1⟩:∃x,v0.alloc (.cells #[.int .i64 (L p).k,.int .i64 (L p).op,.int .i64 (L p).d,.int .i64 (L p).a,.int .i64 (L p).b,.int .i64 (L p).imm,.int .i64 (L p).h,.int .i64 (L p).cond,.int .i64 (L p).thn,.int .i64 (L p).els,.int .i64 (L p).proc] 99)=x/\Below wr.heap.size wr x/\Cl x v0.heap.size [.int .i64 (L p).k,.int .i64 (L p).op,.int .i64 (L p).d,.int .i64 (L p).a,.int .i64 (L p).b,.int .i64 (L p).imm,.int .i64 (L p).h,.int .i64 (L p).cond,.int .i64 (L p).thn,.int .i64 (L p).els,.int .i64 (L p).proc]:=⟨_,rfl,hd0.alloc hd0.size _,Cl.new⟩
  rw[hu1]
  have C1:Hid (Cl u1 v0.heap.size [.int .i64 (L p).k,.int .i64 (L p).op,.int .i64 (L p).d,.int .i64 (L p).a,.int .i64 (L p).b,.int .i64 (L p).imm,.int .i64 (L p).h,.int .i64 (L p).cond,.int .i64 (L p).thn,.int .i64 (L p).els,.int .i64 (L p).proc]):=hc1
  have T1:Hid (TmP u1 t b n cap own procs dmax 0 (p:Int)):=T0.out.below hb1
  have F1:Hid (Ft t wr u1):=Ft.of_below hb1
  have A1:Hid (Arr u1 b (n*11) (stF L)):=A0.out.below hb1 A0.out.lt
  have nt:t<v0.heap.size:=Nat.lt_of_lt_of_le tl hd0.size
  have nl:v0.heap.size<u1.heap.size:=hc1.1
  clear hu1 hb1 hc1 hd0 hHeld r0 r5 s0 s1 s2 s3 s4 s5 s6 s7 s8 s9 s10 A0 tl tf
  generalize v0.heap.size=sb at *
  go_upto_region 5 with fail
  have tl:=T1.out.C.1
  have tf:=T1.out.F
  have s0:∀w',Below u1.heap.size u1 w'->w'.cell? ⟨sb,0,none⟩=some (.int .i64 (L p).k):=fun w' h=>(C1.out.below h).2 0 (by simp)
  have s1:∀w',Below u1.heap.size u1 w'->w'.cell? ⟨sb,1,none⟩=some (.int .i64 (L p).op):=fun w' h=>(C1.out.below h).2 1 (by simp)
  have s2:∀w',Below u1.heap.size u1 w'->w'.cell? ⟨sb,2,none⟩=some (.int .i64 (L p).d):=fun w' h=>(C1.out.below h).2 2 (by simp)
  have s3:∀w',Below u1.heap.size u1 w'->w'.cell? ⟨sb,3,none⟩=some (.int .i64 (L p).a):=fun w' h=>(C1.out.below h).2 3 (by simp)
  have s4:∀w',Below u1.heap.size u1 w'->w'.cell? ⟨sb,4,none⟩=some (.int .i64 (L p).b):=fun w' h=>(C1.out.below h).2 4 (by simp)
  have s5:∀w',Below u1.heap.size u1 w'->w'.cell? ⟨sb,5,none⟩=some (.int .i64 (L p).imm):=fun w' h=>(C1.out.below h).2 5 (by simp)
  have s6:∀w',Below u1.heap.size u1 w'->w'.cell? ⟨sb,6,none⟩=some (.int .i64 (L p).h):=fun w' h=>(C1.out.below h).2 6 (by simp)
  have s7:∀w',Below u1.heap.size u1 w'->w'.cell? ⟨sb,7,none⟩=some (.int .i64 (L p).cond):=fun w' h=>(C1.out.below h).2 7 (by simp)
  have s8:∀w',Below u1.heap.size u1 w'->w'.cell? ⟨sb,8,none⟩=some (.int .i64 (L p).thn):=fun w' h=>(C1.out.below h).2 8 (by simp)
  have s9:∀w',Below u1.heap.size u1 w'->w'.cell? ⟨sb,9,none⟩=some (.int .i64 (L p).els):=fun w' h=>(C1.out.below h).2 9 (by simp)
  have s10:∀w',Below u1.heap.size u1 w'->w'.cell? ⟨sb,10,none⟩=some (.int .i64 (L p).proc):=fun w' h=>(C1.out.below h).2 10 (by simp)
  have r5:∀w',Below u1.heap.size u1 w'->w'.cell? ⟨t,5,none⟩=some (.int .i64 (p:Int)):=fun w' h=>(T1.out.below h).C.2 5 (by simp)
  have fd:IntKind.i64.wrap ((te:Int)-(p:Int))=(te:Int)-(p:Int):=by rw[IntKind.wrap_i64];omega
  have fd2:IntKind.i64.wrap ((te:Int)-(p:Int)-1)=(te:Int)-(p:Int)-1:=by rw[IntKind.wrap_i64];omega
  refine wp_region_L (T:=fun w'=>Below u1.heap.size u1 w') (s:=14) (by kernel_rfl) (Below.refl _ _).drew (fun hHeld=>?_)
  refine wpAnyL_tk 0 ?k11v rfl ?k11y ?k11r
  case k11y=>(intro w hSw;(try dsimp only at hSw);go_simp;try with_reducible rfl)
  try simp only[Act.put,List.getElem_toArray,List.getElem_cons_zero,List.setIfInBounds_toArray,List.set_cons_zero,List.set_cons_succ]
  refine wpAnyL_tk 1 ?k12v rfl ?k12y ?k12r
  case k12y=>(intro w hSw;(try dsimp only at hSw);go_simp;try with_reducible rfl)
  try simp only[Act.put,List.getElem_toArray,List.getElem_cons_zero,List.getElem_cons_succ,List.setIfInBounds_toArray,List.set_cons_zero,List.set_cons_succ]
  refine wpAnyL_tk 2 ?k13v rfl ?k13y ?k13r
  case k13y=>(intro w hSw;(try dsimp only at hSw);go_simp;try with_reducible rfl)
  try simp only[Act.put,List.getElem_toArray,List.getElem_cons_zero,List.getElem_cons_succ,List.setIfInBounds_toArray,List.set_cons_zero,List.set_cons_succ]
  refine wpAnyL_tk 3 ?k14v rfl ?k14y ?k14r
  case k14y=>(intro w hSw;(try dsimp only at hSw);go_simp;try with_reducible rfl)
  try simp only[Act.put,List.getElem_toArray,List.getElem_cons_zero,List.getElem_cons_succ,List.setIfInBounds_toArray,List.set_cons_zero,List.set_cons_succ]
  refine wpAnyL_tk 4 ?k15v rfl ?k15y ?k15r
  case k15y=>(intro w hSw;(try dsimp only at hSw);go_simp;try with_reducible rfl)
  try simp only[Act.put,List.getElem_toArray,List.getElem_cons_zero,List.getElem_cons_succ,List.setIfInBounds_toArray,List.set_cons_zero,List.set_cons_succ]
  refine wpAnyL_tk 5 ?k16v rfl ?k16y ?k16r
  case k16y=>(intro w hSw;(try dsimp only at hSw);go_simp;try with_reducible rfl)
  try simp only[Act.put,List.getElem_toArray,List.getElem_cons_zero,List.getElem_cons_succ,List.setIfInBounds_toArray,List.set_cons_zero,List.set_cons_succ]
  refine wpAnyL_tk 6 ?k17v rfl ?k17y ?k17r
  case k17y=>(intro w hSw;(try dsimp only at hSw);go_simp;try with_reducible rfl)
  try simp only[Act.put,List.getElem_toArray,List.getElem_cons_zero,List.getElem_cons_succ,List.setIfInBounds_toArray,List.set_cons_zero,List.set_cons_succ]
  refine wpAnyL_tk 7 ?k18v rfl ?k18y ?k18r
  case k18y=>(intro w hSw;(try dsimp only at hSw);go_simp;try with_reducible rfl)
  try simp only[Act.put,List.getElem_toArray,List.getElem_cons_zero,List.getElem_cons_succ,List.setIfInBounds_toArray,List.set_cons_zero,List.set_cons_succ]
  refine wpAnyL_tk 8 ?k19v rfl ?k19y ?k19r
  case k19y=>(intro w hSw;(try dsimp only at hSw);go_simp;try with_reducible rfl)
  try simp only[Act.put,List.getElem_toArray,List.getElem_cons_zero,List.getElem_cons_succ,List.setIfInBounds_toArray,List.set_cons_zero,List.set_cons_succ]
  refine wpAnyL_tk 9 ?k20v rfl ?k20y ?k20r
  case k20y=>(intro w hSw;(try dsimp only at hSw);go_simp;try with_reducible rfl)
  try simp only[Act.put,List.getElem_toArray,List.getElem_cons_zero,List.getElem_cons_succ,List.setIfInBounds_toArray,List.set_cons_zero,List.set_cons_succ]
  refine wpAnyL_tk 10 ?k21v rfl ?k21y ?k21r
  case k21y=>(intro w hSw;(try dsimp only at hSw);go_simp;try with_reducible rfl)
  try simp only[Act.put,List.getElem_toArray,List.getElem_cons_zero,List.getElem_cons_succ,List.setIfInBounds_toArray,List.set_cons_zero,List.set_cons_succ]
  refine wpAnyL_call (i:=11) rfl (by kernel_rfl) (fun KK hK=>?_)
  go_simp
  refine(wrong_any t _ own procs dmax 0 (p:Int) (L p) ((te:Int)-(p:Int)-1) depth _ (T1.out.below (Below.refl _ _).drew).C (by omega) (by omega)).mono ?_
  rintro e u2⟨rfl,hb⟩
  have b2:Below u1.heap.size u1 u2:=(Below.refl u1.heap.size u1).drew.trans hb
  clear hb
  obtain⟨wi,hwi⟩:∃x,wrongI (L p) own procs dmax ((te:Int)-(p:Int)-1) depth=x:=⟨_,rfl⟩
  rw[hwi]
  have HWI:Hid (wrongI (L p) own procs dmax ((te:Int)-(p:Int)-1) depth=wi):=hwi
  clear hwi
  go_wp2_with fail
  refine hK.out _ _ b2 (fun hHeld2=>?_)
  clear hK KK
  try simp only[Act.put,List.getElem_toArray,List.getElem_cons_zero,List.getElem_cons_succ,List.setIfInBounds_toArray,List.set_cons_zero,List.set_cons_succ]
  refine wpAnyL_tkT 12 ?k22v rfl ?k22y ?k22r
  case k22y=>(intro w hSw;(try dsimp only at hSw);go_simp;try with_reducible rfl)
  try simp only[Act.put,List.getElem_toArray,List.getElem_cons_zero,List.getElem_cons_succ,List.setIfInBounds_toArray,List.set_cons_zero,List.set_cons_succ]
  refine wpAnyL_tk 13 ?k23v rfl ?k23y ?k23r
  case k23y=>(intro w hSw;(try dsimp only at hSw);go_simp;try with_reducible rfl)
  try simp only[Act.put,List.getElem_toArray,List.getElem_cons_zero,List.getElem_cons_succ,List.setIfInBounds_toArray,List.set_cons_zero,List.set_cons_succ]
  have T2:Hid (TmP u2 t b n cap own procs dmax 0 (p:Int)):=T1.out.below b2
  have C2:Hid (Cl u2 sb [.int .i64 (L p).k,.int .i64 (L p).op,.int .i64 (L p).d,.int .i64 (L p).a,.int .i64 (L p).b,.int .i64 (L p).imm,.int .i64 (L p).h,.int .i64 (L p).cond,.int .i64 (L p).thn,.int .i64 (L p).els,.int .i64 (L p).proc]):=C1.out.below b2
  have A2:Hid (Arr u2 b (n*11) (stF L)):=A1.out.below b2 A1.out.lt
  have F2:Hid (Ft t wr u2):=F1.out.trans (Ft.of_below b2)
  clear r5 s0 s1 s2 s3 s4 s5 s6 s7 s8 s9 s10 fd fd2
  obtain⟨q0,q1,q2,q3,q4,q5⟩:=tm_cells T2.out
  have tl2:=T2.out.C.1
  have tf2:=T2.out.F
  refine wpAnyL_store rfl (by kernel_rfl) (by kernel_rfl) (fun KK hK=>?_)
  go_simp
  refine hK.out _ _ ?_
  clear hK KK q0 q1 q2 q3 q4 q5 tl tf tl2 tf2 hHeld hHeld2 b2 T1 C1 A1 F1
  obtain⟨u3,hu3,T3,F3,C3⟩:∃x,u2.setCell ⟨t,4,none⟩ (.int .i64 wi)=x/\Hid (TmP x t b n cap own procs dmax wi (p:Int))/\Hid (Ft t wr x)/\Hid (Cl x sb [.int .i64 (L p).k,.int .i64 (L p).op,.int .i64 (L p).d,.int .i64 (L p).a,.int .i64 (L p).b,.int .i64 (L p).imm,.int .i64 (L p).h,.int .i64 (L p).cond,.int .i64 (L p).thn,.int .i64 (L p).els,.int .i64 (L p).proc]):=⟨_,rfl,T2.out.setErr _,F2.out.set _ _,⟨by simpa using C2.out.1,fun i hi=>(World.cell?_setCell_far _ _ _ _ (show t≠sb by omega)).trans (C2.out.2 i hi)⟩⟩
  rw[hu3]
  clear hu3 T2 F2 C2 A2
  obtain⟨q0,q1,q2,q3,q4,q5⟩:=tm_cells T3.out
  have tl:=T3.out.C.1
  by_cases hz:wi=0
  rotate_left
  ·have e0:(wi==0)=false:=by simp[hz]
   have HZ:Hid (wi≠0):=hz
   clear hz
   go_wp2
   have R:=BInv.bad (L:=L) (m:=m) (i:=i) (te:=te) (p:=p) (depth:=depth) lt F0.out O0.out OB0.out hlt HC.out F3.out (by rw[HWI.out];exact T3.out) (by rw[HWI.out];exact HZ.out)
   go_roundw
   case rel=>exact R.1
   case measure=>rw[R.2,tmM_eq te T0.out,if_pos rfl];omega
  subst hz
  obtain⟨c0,c1,c2,c3,c4,c5,c6,c7',c8,c9,c10⟩:=st_cl C3.out
  have cz:=C3.out.1
  obtain⟨iV,gV,gV0,gV1,gV2⟩:=info_parts info_statement
  have HIV:Hid (_/\_/\_/\_):=⟨gV,gV0,gV1,gV2⟩
  clear gV gV0 gV1 gV2
  go_wp2_with fail
  clear q0 q1 q2 q3 q4 q5 c0 c1 c2 c3 c4 c5 c6 c7' c8 c9 c10 tl cz
  have hc:=HS.out p hip hlt HWI.out u3 ((F0.out.trans F3.out).arr HA.out hbt) T3.out
  refine hc.mono ?_
  clear hc
  rintro e u4⟨ty,av,rfl,hf4,ht4,hn4⟩
  have F4:Hid (Ft t u3 u4):=hf4
  have T4:Hid (TmP u4 t b n cap own procs dmax (stR L own procs dmax p depth).1 (stR L own procs dmax p depth).2):=ht4
  have N4:Hid ((stR L own procs dmax p depth).1=0->NodeN L m u4 (fun q=>u3.heap.size<=q) (.iface ty av) p):=hn4
  have O4:Hid (u4.ownsRow 0 118 1 (.slice ao7 k7 c7) xs.length xs):=row_ft O0.out (F3.out.trans F4.out) (fun e=>by have:=OB0.out t e;omega)
  clear hf4 ht4 hn4
  go_wp2_with(first|(at_builtin;refine wpList_append_own_at _ rfl _ _ 80 rfl 0 118 iV .nilIface 1 16 Tryz.underlying80 HIV.out.1 HIV.out.2.1 HIV.out.2.2.1 HIV.out.2.2.2 rfl (by decide) (.slice ao7 k7 c7) xs.length xs rfl (row_belowU O4.out ((Below.refl _ _).alloc (Nat.le_refl _) _)) ⟨u4.heap.size,0,none⟩ 1 1 [.iface ty av] rfl rfl (cell_one_new _ _ _) ?c2 ?c3 ?c4 ?c5 ?_)|go_in)
  case c2=>intro x hx;simp at hx;subst hx;rfl
  case c3=>unfold maxLen;omega
  case c4=>omega
  case c5=>exact Nat.zero_le _
  intro v' w1 hown hgrow _ hat
  have R:=BInv.more (L:=L) (m:=m) (i:=i) (te:=te) (p:=p) (depth:=depth) lt F0.out O0.out OB0.out hip hlt HC.out HTP.out HLN.out hxp HN.out F3.out F4.out T4.out N4.out HWI.out hown hgrow hat
  have HR:Hid _:=R
  clear hown hgrow hat R
  go_wp2
  go_roundw
  case rel=>exact HR.out.1
  case measure=>have:=HR.out.2;rw[tmM_eq te T0.out,if_pos rfl];omega
theorem st_one{s:SV}{procs:Int}(h:stOK s procs=true):s.k=1∨s.k=2∨s.k=3∨s.k=4:=by
 unfold stOK at h;by_cases a:s.k=1
 ·exact .inl a
 by_cases b:s.k=2
 ·exact .inr (.inl b)
 by_cases c:s.k=3
 ·exact .inr (.inr (.inl c))
 by_cases d:s.k=4
 ·exact .inr (.inr (.inr d))
 rw[if_neg a,if_neg b,if_neg c,if_neg d]at h;cases h
theorem st_flat{s:SV}{procs:Int}(h:stOK s procs=true)(hk:s.k=1∨s.k=4):s.thn=0/\s.els=0:=by
 unfold stOK at h;rcases hk with k|k
 ·rw[if_pos k]at h;simp at h;omega
 ·rw[if_neg (by omega),if_neg (by omega),if_neg (by omega),if_pos k]at h;simp at h;omega
theorem st_loop{s:SV}{procs:Int}(h:stOK s procs=true)(hk:s.k=3):s.els=0:=by
 unfold stOK at h;rw[if_neg (by omega),if_neg (by omega),if_pos hk]at h;simp at h;omega
theorem blockOf_any(L:Nat->SV)(t b n cap:Nat)(own procs dmax:Int)(hbt:b≠t)(ln:n<=1048576):∀(m i te:Nat)(depth:Int),te-i<=m->i<=te->te<=n->0<=depth->depth+(m:Int)<=1099511627776->BlockC L t b n cap own procs dmax (m+1) i te depth:=by
 intro m;induction m with
 |zero=>
  intro i te depth hm hit htn d0 d1;exact blockOf_go L t b n cap own procs dmax 0 i te depth hbt ln hit htn (fun p h1 h2=>by omega)
 |succ m ih=>
  intro i te depth hm hit htn d0 d1;refine blockOf_go L t b n cap own procs dmax (m+1) i te depth hbt ln hit htn (fun p h1 h2 hw=>?_);obtain⟨hok,w1,w2,_,_⟩:=wrong_zero hw;obtain⟨tp,ep⟩:=st_pos hok;rcases st_one hok with k|k|k|k
  ·obtain⟨z1,z2⟩:=st_flat hok (.inl k)
   intro w hA hT;refine(statementOf_14 L t b n cap own procs dmax (m+1) p depth w (by omega) hT (.inl k)).mono ?_;rintro e w'⟨ty,a,rfl,f,T,N⟩;have hs:=stR_flat (own:=own) (procs:=procs) (dmax:=dmax) (depth:=depth) z1 z2;exact⟨ty,a,rfl,f,by rw[hs];exact T,fun _=>N⟩
  ·exact statementOf_2 L t b n cap own procs dmax (m+1) p depth (by omega) d0 (by omega) hbt k tp ep (ih _ _ _ (by omega) (by omega) (by omega) (by omega) (by omega)) (ih _ _ _ (by omega) (by omega) (by omega) (by omega) (by omega))
  ·exact statementOf_3 L t b n cap own procs dmax (m+1) p depth (by omega) d0 (by omega) hbt k tp (st_loop hok k) (ih _ _ _ (by omega) (by omega) (by omega) (by omega) (by omega))
  ·obtain⟨z1,z2⟩:=st_flat hok (.inr k)
   intro w hA hT;refine(statementOf_14 L t b n cap own procs dmax (m+1) p depth w (by omega) hT (.inr k)).mono ?_;rintro e w'⟨ty,a,rfl,f,T,N⟩;have hs:=stR_flat (own:=own) (procs:=procs) (dmax:=dmax) (depth:=depth) z1 z2;exact⟨ty,a,rfl,f,by rw[hs];exact T,fun _=>N⟩
end Go.Proofs.YtiphbmhoifggiaaGreatDoor
