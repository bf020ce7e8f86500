import Derived.Test.YtplnpgohdgialaaOfUnitMeasure
import Derived.Test.YtplnpgohdgialaaOfUnitSpec
import Derived.Test.YtplnpgohdgialaaOfCl
import Derived.Deep.QuietTactic
import Derived.BigQuiet
import Derived.Deep.RegionWith
import Derived.BigRegion
set_option maxHeartbeats 32000000
set_option maxRecDepth 20000
namespace Go.Proofs.Ytplnpgohdgialaa
open Go.RowKit
def stL(s:SV):List Value:=[.int .i64 s.k,.int .i64 s.op,.int .i64 s.d,.int .i64 s.a,.int .i64 s.b,.int .i64 s.imm,.int .i64 s.h,.int .i64 s.cond,.int .i64 s.thn,.int .i64 s.els,.int .i64 s.proc]
def cs(xs:List SV):List Value:=xs.flatMap stL
theorem cs_len(xs:List SV):(cs xs).length=xs.length*11:=by
 induction xs with
 |nil=>rfl
 |cons a l ih=>show(stL a++cs l).length=(l.length+1)*11;rw[List.length_append,ih];show 11+_=_;omega
theorem cs_app(a b:List SV):cs (a++b)=cs a++cs b:=by simp[cs]
theorem cs_one(s:SV):cs [s]=stL s:=by simp[cs]
theorem cs_get(xs:List SV)(d:SV):∀p,p<xs.length*11->(cs xs)[p]?=some (stF (fun i=>xs.getD i d) p):=by
 induction xs with
 |nil=>intro p h;simp at h
 |cons a l ih=>
  intro p h;show(stL a++cs l)[p]?=_;by_cases hp:p<11
  ·rw[List.getElem?_append_left (by show p<11;exact hp)]
   unfold stF;rw[show p/11=0 by omega,show p%11=p by omega];match p,hp with
   |0,_=>rfl
   |1,_=>rfl
   |2,_=>rfl
   |3,_=>rfl
   |4,_=>rfl
   |5,_=>rfl
   |6,_=>rfl
   |7,_=>rfl
   |8,_=>rfl
   |9,_=>rfl
   |10,_=>rfl
  ·rw[List.getElem?_append_right (by show 11<=p;omega)]
   show(cs l)[p-11]?=_;rw[ih (p-11) (by simp at h;omega)];unfold stF;rw[show(p-11)/11=p/11-1 by omega,show(p-11)%11=p%11 by omega];obtain⟨k,hk⟩:∃k,p/11=k+1:=⟨p/11-1,by omega⟩
   rw[hk];rfl
def inlB(B:Nat->List SV)(L:Nat->SV)(i te:Nat):List SV:=
 if _h:i<te then
  if _hs:i+1+(L i).thn.toNat+(L i).els.toNat<=te then
   (if(L i).k=4 then B (L i).proc.toNat else{L i with thn:=((inlB B L (i+1) (i+1+(L i).thn.toNat)).length:Int),els:=((inlB B L (i+1+(L i).thn.toNat) (i+1+(L i).thn.toNat+(L i).els.toNat)).length:Int)}::(inlB B L (i+1) (i+1+(L i).thn.toNat)++inlB B L (i+1+(L i).thn.toNat) (i+1+(L i).thn.toNat+(L i).els.toNat)))++inlB B L (i+1+(L i).thn.toNat+(L i).els.toNat) te
  else[]
 else[]
section
variable{B:Nat->List SV}{L:Nat->SV}{i te:Nat}
theorem inlB_end(h:¬i<te):inlB B L i te=[]:=by rw[inlB,dif_neg h]
theorem inlB_over(h:i<te)(hs:¬i+1+(L i).thn.toNat+(L i).els.toNat<=te):inlB B L i te=[]:=by rw[inlB,dif_pos h,dif_neg hs]
theorem inlB_call(h:i<te)(hs:i+1+(L i).thn.toNat+(L i).els.toNat<=te)(k:(L i).k=4):inlB B L i te=B (L i).proc.toNat++inlB B L (i+1+(L i).thn.toNat+(L i).els.toNat) te:=by rw[inlB,dif_pos h,dif_pos hs,if_pos k]
def SV.put(s:SV)(a b:Nat):SV:={s with thn:=(a:Int),els:=(b:Int)}
theorem inlB_node(h:i<te)(hs:i+1+(L i).thn.toNat+(L i).els.toNat<=te)(k:¬(L i).k=4):inlB B L i te=(L i).put (inlB B L (i+1) (i+1+(L i).thn.toNat)).length (inlB B L (i+1+(L i).thn.toNat) (i+1+(L i).thn.toNat+(L i).els.toNat)).length::(inlB B L (i+1) (i+1+(L i).thn.toNat)++inlB B L (i+1+(L i).thn.toNat) (i+1+(L i).thn.toNat+(L i).els.toNat)++inlB B L (i+1+(L i).thn.toNat+(L i).els.toNat) te):=by
 rw[inlB,dif_pos h,dif_pos hs,if_neg k,List.cons_append,List.append_assoc];rfl
end
theorem inlB_congr{B B':Nat->List SV}{L:Nat->SV}:∀(m i te:Nat),te-i<=m->(∀j,i<=j->j<te->(L j).k=4->B (L j).proc.toNat=B' (L j).proc.toNat)->inlB B L i te=inlB B' L i te:=by
 intro m;induction m with
 |zero=>intro i te hm _;rw[inlB_end (by omega),inlB_end (by omega)]
 |succ m ih=>
  intro i te hm hc;by_cases h:i<te
  rotate_left
  ·rw[inlB_end h,inlB_end h]
  by_cases hs:i+1+(L i).thn.toNat+(L i).els.toNat<=te
  rotate_left
  ·rw[inlB_over h hs,inlB_over h hs]
  have e3:=ih (i+1+(L i).thn.toNat+(L i).els.toNat) te (by omega) (fun j h1 h2=>hc j (by omega) h2);by_cases k:(L i).k=4
  ·rw[inlB_call h hs k,inlB_call h hs k,hc i (Nat.le_refl _) h k,e3]
  ·have e1:=ih (i+1) (i+1+(L i).thn.toNat) (by omega) (fun j h1 h2=>hc j (by omega) (by omega))
   have e2:=ih (i+1+(L i).thn.toNat) (i+1+(L i).thn.toNat+(L i).els.toNat) (by omega) (fun j h1 h2=>hc j (by omega) (by omega));rw[inlB_node h hs k,inlB_node h hs k,e1,e2,e3]
theorem inlB_len{B:Nat->List SV}{L:Nat->SV}{Z:Nat->Int}(z0:∀i,0<=Z i):∀(m i te:Nat),te-i<=m->i<=te->(∀j,i<=j->j<te->(L j).k=4->((B (L j).proc.toNat).length:Int)<=Z (L j).proc.toNat)->((inlB B L i te).length:Int)<=szTo L Z te-szTo L Z i:=by
 intro m;induction m with
 |zero=>intro i te hm hit _;rw[inlB_end (by omega),show i=te by omega];simp
 |succ m ih=>
  intro i te hm hit hc;have mono:=szTo_mono (L:=L) z0 hit;by_cases h:i<te
  rotate_left
  ·rw[inlB_end h];simp;omega
  by_cases hs:i+1+(L i).thn.toNat+(L i).els.toNat<=te
  rotate_left
  ·rw[inlB_over h hs];simp;omega
  have e3:=ih (i+1+(L i).thn.toNat+(L i).els.toNat) te (by omega) hs (fun j h1 h2=>hc j (by omega) h2);have s1:szTo L Z (i+1)=szTo L Z i+wI (L i) Z:=rfl;have m1:=szTo_mono (L:=L) z0 (show i+1<=i+1+(L i).thn.toNat+(L i).els.toNat by omega);by_cases k:(L i).k=4
  ·have e:=hc i (Nat.le_refl _) h k
   have hw:wI (L i) Z=Z (L i).proc.toNat:=by unfold wI;rw[if_neg (by omega),if_pos k]
   rw[inlB_call h hs k];simp only[List.length_append];omega
  ·have e1:=ih (i+1) (i+1+(L i).thn.toNat) (by omega) (by omega) (fun j h1 h2=>hc j (by omega) (by omega))
   have e2:=ih (i+1+(L i).thn.toNat) (i+1+(L i).thn.toNat+(L i).els.toNat) (by omega) (by omega) (fun j h1 h2=>hc j (by omega) (by omega));have hw:1<=wI (L i) Z:=by unfold wI;split<;>(try rw[if_neg k])<;>omega
   rw[inlB_node h hs k];simp only[List.length_append,List.length_cons];omega
theorem chk_calls(L:Nat->SV)(me procs deep:Int):∀(m i te:Nat)(depth:Int),te-i<=m->(chk L me procs deep i te depth).1=0->∀j,i<=j->j<te->¬((L j).k=4/\(L j).proc<=me):=by
 intro m;induction m using Nat.strongRecOn with
 |ind m ih=>
 intro i te depth hm h0 j hij hjt;have hlt:i<te:=by omega
 by_cases h1:stOK (L i) procs=false
 ·rw[chk_bad hlt h1]at h0;exact absurd h0 (by simp)
 by_cases h2:i+1+(L i).thn.toNat+(L i).els.toNat<=te
 rotate_left
 ·rw[chk_shape hlt h1 h2]at h0;exact absurd h0 (by simp)
 by_cases h3:((L i).k=2∨(L i).k=3)/\deep<=depth
 ·rw[chk_deep hlt h1 h2 h3]at h0;exact absurd h0 (by simp)
 by_cases h4:(L i).k=4/\(L i).proc<=me
 ·rw[chk_rec hlt h1 h2 h3 h4]at h0;exact absurd h0 (by simp)
 rw[chk_then hlt h1 h2 h3 h4]at h0;by_cases z1:(chk L me procs deep (i+1) (i+1+(L i).thn.toNat) (depth+1)).1≠0
 ·rw[if_pos z1]at h0;exact absurd h0 z1
 rw[if_neg z1]at h0;by_cases z2:(chk L me procs deep (i+1+(L i).thn.toNat) (i+1+(L i).thn.toNat+(L i).els.toNat) (depth+1)).1≠0
 ·rw[if_pos z2]at h0;exact absurd h0 z2
 rw[if_neg z2]at h0;by_cases e:j=i
 ·rw[e];exact h4
 by_cases e1:j<i+1+(L i).thn.toNat
 ·exact ih (te-i-1) (by omega) (i+1) _ (depth+1) (by omega) (by simpa using z1) j (by omega) e1
 by_cases e2:j<i+1+(L i).thn.toNat+(L i).els.toNat
 ·exact ih (te-i-1) (by omega) (i+1+(L i).thn.toNat) _ (depth+1) (by omega) (by simpa using z2) j (by omega) e2
 ·exact ih (te-i-1) (by omega) _ te depth (by omega) h0 j (by omega) hjt
def bz(Pv:Nat->PV)(np:Nat):Nat->Nat->List SV
 |0=>fun _=>[]
 |k+1=>fun i=>if i=np-1-k then inlB (bz Pv np k) (Pv (np-1-k)).L 0 (Pv (np-1-k)).n else bz Pv np k i
theorem bz_at(Pv:Nat->PV)(np k i:Nat):bz Pv np (k+1) i=if i=np-1-k then inlB (bz Pv np k) (Pv (np-1-k)).L 0 (Pv (np-1-k)).n else bz Pv np k i:=rfl
theorem pz_at(Pv:Nat->PV)(np k i:Nat):pz Pv np (k+1) i=if i=np-1-k then min (szTo (Pv (np-1-k)).L (pz Pv np k) (Pv (np-1-k)).n) 2000 else pz Pv np k i:=rfl
theorem bz_stays(Pv:Nat->PV)(np k:Nat):∀d,k+d<=np->∀i,np-k<=i->i<np->bz Pv np (k+d) i=bz Pv np k i
 |0,_,_,_,_=>rfl
 |d+1,h,i,h1,h2=>by
  show bz Pv np (k+d+1) i=_;rw[bz_at,if_neg (by omega),bz_stays Pv np k d (by omega) i h1 h2]
theorem pz_stays(Pv:Nat->PV)(np k:Nat):∀d,k+d<=np->∀i,np-k<=i->i<np->pz Pv np (k+d) i=pz Pv np k i
 |0,_,_,_,_=>rfl
 |d+1,h,i,h1,h2=>by
  show pz Pv np (k+d+1) i=_;rw[pz_at,if_neg (by omega),pz_stays Pv np k d (by omega) i h1 h2]
theorem szTo_congr{L:Nat->SV}{Z Z':Nat->Int}:∀n,(∀j,j<n->(L j).k=4->Z (L j).proc.toNat=Z' (L j).proc.toNat)->szTo L Z n=szTo L Z' n
 |0,_=>rfl
 |n+1,h=>by
  have e:=szTo_congr n (fun j hj=>h j (by omega));show szTo L Z n+wI (L n) Z=szTo L Z' n+wI (L n) Z';rw[e];congr 1
  unfold wI;by_cases a:(L n).k=1
  ·rw[if_pos a,if_pos a]
  ·rw[if_neg a,if_neg a]
   by_cases b:(L n).k=4
   ·rw[if_pos b,if_pos b];exact h n (by omega) b
   ·rw[if_neg b,if_neg b]
theorem szTo_ge{L:Nat->SV}{Z:Nat->Int}(z0:∀i,0<=Z i){j n:Nat}(hj:j<n)(k:(L j).k=4):Z (L j).proc.toNat<=szTo L Z n:=by
 have m:=szTo_mono (L:=L) z0 (show j+1<=n from hj);have p:=szTo_pos (L:=L) z0 j;have s1:szTo L Z (j+1)=szTo L Z j+wI (L j) Z:=rfl;have hw:wI (L j) Z=Z (L j).proc.toNat:=by unfold wI;rw[if_neg (by omega),if_pos k]
 omega
structure UGood(Pv:Nat->PV)(np:Nat):Prop where
 n1:1<=np
 n20:np<=20
 c:∀q,q<np->(Pv q).n<=500/\(chk (Pv q).L (q:Int) (np:Int) 16 0 (Pv q).n 0).1=0
 z:pz Pv np np 0<2000
def Bdy(Pv:Nat->PV)(np:Nat):Nat->List SV:=bz Pv np np
def Zd(Pv:Nat->PV)(np:Nat):Nat->Int:=pz Pv np np
theorem Zd_in(Pv:Nat->PV)(np:Nat):∀i,0<=Zd Pv np i/\Zd Pv np i<=2000:=pz_in Pv np np
section
variable{Pv:Nat->PV}{np:Nat}
theorem UGood.calls(g:UGood Pv np){q j:Nat}(hq:q<np)(hj:j<(Pv q).n)(k:((Pv q).L j).k=4):q<((Pv q).L j).proc.toNat/\((Pv q).L j).proc.toNat<np/\0<=((Pv q).L j).proc:=by
 have h:=(g.c q hq).2;have a:=chk_all (Pv q).L (q:Int) (np:Int) 16 _ 0 (Pv q).n 0 (Nat.le_refl _) h j (Nat.zero_le _) hj;have b:=chk_calls (Pv q).L (q:Int) (np:Int) 16 _ 0 (Pv q).n 0 (Nat.le_refl _) h j (Nat.zero_le _) hj;have c:=st_call a k;omega
theorem UGood.body(g:UGood Pv np){q:Nat}(hq:q<np):Bdy Pv np q=inlB (Bdy Pv np) (Pv q).L 0 (Pv q).n:=by
 have e:=bz_stays Pv np (np-q-1+1) q (by omega) q (by omega) hq;rw[show np-q-1+1+q=np by omega,bz_at,if_pos (by omega),show np-1-(np-q-1)=q by omega]at e;show bz Pv np np q=_;rw[e];refine inlB_congr _ 0 _ (Nat.le_refl _) (fun j _ hj k=>?_);obtain⟨c1,c2,c3⟩:=g.calls hq hj k;have:=bz_stays Pv np (np-q-1) (q+1) (by omega) ((Pv q).L j).proc.toNat (by omega) c2;rw[show np-q-1+(q+1)=np by omega]at this;exact this.symm
theorem UGood.size(g:UGood Pv np){q:Nat}(hq:q<np):Zd Pv np q=min (szTo (Pv q).L (Zd Pv np) (Pv q).n) 2000:=by
 have e:=pz_stays Pv np (np-q-1+1) q (by omega) q (by omega) hq;rw[show np-q-1+1+q=np by omega,pz_at,if_pos (by omega),show np-1-(np-q-1)=q by omega]at e;show pz Pv np np q=_;rw[e];rw[szTo_congr (Z:=pz Pv np (np-q-1)) (Z':=Zd Pv np) (Pv q).n (fun j hj k=>?_)];obtain⟨c1,c2,c3⟩:=g.calls hq hj k;have:=pz_stays Pv np (np-q-1) (q+1) (by omega) ((Pv q).L j).proc.toNat (by omega) c2;rw[show np-q-1+(q+1)=np by omega]at this;exact this.symm
theorem UGood.small(g:UGood Pv np){q j:Nat}(hq:q<np)(hz:Zd Pv np q<2000)(hj:j<(Pv q).n)(k:((Pv q).L j).k=4):Zd Pv np ((Pv q).L j).proc.toNat<2000:=by
 have a:=szTo_ge (fun i=>(Zd_in Pv np i).1) hj k;have b:=g.size hq;omega
theorem UGood.sum(g:UGood Pv np){q:Nat}(hq:q<np)(hz:Zd Pv np q<2000):Zd Pv np q=szTo (Pv q).L (Zd Pv np) (Pv q).n:=by
 have b:=g.size hq;omega
theorem UGood.len(g:UGood Pv np):∀(d q:Nat),np-q<=d->q<np->Zd Pv np q<2000->((Bdy Pv np q).length:Int)<=Zd Pv np q:=by
 intro d;induction d with
 |zero=>intro q h1 h2;omega
 |succ d ih=>
  intro q h1 hq hz;rw[g.body hq,g.sum hq hz];have:=inlB_len (B:=Bdy Pv np) (L:=(Pv q).L) (Z:=Zd Pv np) (fun i=>(Zd_in Pv np i).1) _ 0 (Pv q).n (Nat.le_refl _) (Nat.zero_le _) (fun j _ hj k=>by
   obtain⟨c1,c2,c3⟩:=g.calls hq hj k;exact ih _ (by omega) c2 (g.small hq hz hj k))
  rw[show szTo (Pv q).L (Zd Pv np) 0=0 from rfl]at this;omega
theorem UGood.part(g:UGood Pv np){q i te:Nat}(hq:q<np)(hz:Zd Pv np q<2000)(hit:i<=te)(hte:te<=(Pv q).n):((inlB (Bdy Pv np) (Pv q).L i te).length:Int)<=szTo (Pv q).L (Zd Pv np) te-szTo (Pv q).L (Zd Pv np) i/\0<=szTo (Pv q).L (Zd Pv np) i/\szTo (Pv q).L (Zd Pv np) te<2000:=by
 refine⟨inlB_len (fun i=>(Zd_in Pv np i).1) _ i te (Nat.le_refl _) hit (fun j _ hj k=>?_),szTo_pos (fun i=>(Zd_in Pv np i).1) i,?_⟩
 ·obtain⟨c1,c2,c3⟩:=g.calls hq (show j<(Pv q).n by omega) k
  exact g.len _ _ (Nat.le_refl _) c2 (g.small hq hz (by omega) k)
 ·have:=szTo_mono (L:=(Pv q).L) (Z:=Zd Pv np) (fun i=>(Zd_in Pv np i).1) hte
  have:=g.sum hq hz;omega
end
theorem info_stmt:(Try.prog.info? 33).map (fun i=>(i.zero,i.size,i.bytes))=some (some (.agg #[.int .i64 0,.int .i64 0,.int .i64 0,.int .i64 0,.int .i64 0,.int .i64 0,.int .i64 0,.int .i64 0,.int .i64 0,.int .i64 0,.int .i64 0]),11,88):=by kernel_rfl
def InlC(bp np cap:Nat)(Pv:Nat->PV)(blk:Nat->Nat)(w0:World)(q i te:Nat):Prop:=
 ∀(off len cap':Nat)(w:World),len=te-i->(0<len->off=i*11)->len<=cap'->Below w0.heap.size w0 w->Calls Try.prog 21 #[.slice (some ⟨bp,0,none⟩) np cap,.slice (some ⟨blk q,off,none⟩) len cap'] w fun e w'=>∃g c:Nat,e=.returned (.slice (some ⟨g,0,none⟩) (inlB (Bdy Pv np) (Pv q).L i te).length c)/\w'.ownsRow w.heap.size 33 11 (.slice (some ⟨g,0,none⟩) (inlB (Bdy Pv np) (Pv q).L i te).length c) (inlB (Bdy Pv np) (Pv q).L i te).length (cs (inlB (Bdy Pv np) (Pv q).L i te))/\Below w.heap.size w w'
theorem Ft.under{t B:Nat}{w w':World}(h:Ft t w w')(hB:B<=w.heap.size)(ht:B<=t):Below B w w':=⟨h.os,h.tape,h.output,h.size,fun k hk=>h.block k (by omega) (by omega)⟩
theorem row_grown{w w1:World}{base e size n:Nat}{v:Value}{xs:List Value}{ob:Option Nat}(h:w.ownsRow base e size v n xs)(g:w.grownBy w1 ob)(hn:∀k,v.ownBlock=some k->ob≠some k):w1.ownsRow base e size v n xs:=by
 refine⟨h.1,?_⟩;rcases h.2 with h'|⟨b,cap,cur,rfl,h1,h2,h3⟩
 ·exact .inl h'
 ·have hg:b<w.heap.size:=(Array.getElem?_eq_some_iff.1 h2).1
  exact .inr ⟨b,cap,cur,rfl,h1,(g.block b hg (fun e=>hn b rfl e.symm)).trans h2,h3⟩
theorem row_at{w:World}{base e n:Nat}{v:Value}{xs:List Value}(h:w.ownsRow base e 11 v n xs)(hv:v≠ .slice none 0 0):∃g c,v=.slice (some ⟨g,0,none⟩) n c:=by
 rcases h.2 with⟨h',_⟩|⟨g,cap,cur,rfl,_⟩
 ·exact absurd h' hv
 ·exact⟨_,_,rfl⟩
theorem row_news{w:World}{base e n g c:Nat}{xs:List Value}(h:w.ownsRow base e 11 (.slice (some ⟨g,0,none⟩) n c) n xs):∀j u,xs[j]?=some u->w.cell? ((⟨g,0,none⟩:Addr).add j)=some u:=by
 intro j u hj;have hl:=(List.getElem?_eq_some_iff.1 hj).1;have:=h.cellAt j (by rw[<-h.1];exact hl);rw[show((⟨g,0,none⟩:Addr).add j)=⟨g,j,none⟩by simp[Addr.add];exact fun h=>h.symm,this,hj]
theorem cells_new(w:World)(vs:Array Value)(t:TypeId):∀j u,vs.toList[j]?=some u->(w.alloc (.cells vs t)).cell? ((⟨w.heap.size,0,none⟩:Addr).add j)=some u:=by
 intro j u hj;rw[show((⟨w.heap.size,0,none⟩:Addr).add j)=⟨w.heap.size,j,none⟩by simp[Addr.add];exact fun h=>h.symm];simp at hj;simp[go_sem,hj]
theorem cs_flat(xs:List SV):∀u∈cs xs,u.oneCell'=true:=by
 intro u hu;simp only[cs,List.mem_flatMap]at hu;obtain⟨s,_,hs⟩:=hu;simp only[stL,List.mem_cons,List.not_mem_nil,or_false]at hs;rcases hs with rfl|rfl|rfl|rfl|rfl|rfl|rfl|rfl|rfl|rfl|rfl<;>rfl
theorem l3Inline_go(bp np cap:Nat)(Pv:Nat->PV)(blk:Nat->Nat)(w0:World)(h0:PCp w0 bp np Pv blk)(gd:UGood Pv np)(q i te:Nat)(depth:Int)(hq:q<np)(hz:Zd Pv np q<2000)(hit:i<=te)(hte:te<=(Pv q).n)(hck:(chk (Pv q).L (q:Int) (np:Int) 16 i te depth).1=0)
 (hC:∀x,q<x->x<np->Zd Pv np x<2000->InlC bp np cap Pv blk w0 x 0 (Pv x).n)(hI:∀i' te' d,i<=i'->i'<=te'->te'<=te->te'-i'<te-i->(chk (Pv q).L (q:Int) (np:Int) 16 i' te' d).1=0->InlC bp np cap Pv blk w0 q i' te'):InlC bp np cap Pv blk w0 q i te:=by
 intro off len cap' w hlen hoff hcap hb0;have hl1:len<=te-i:=by omega
 have hl2:te-i<=len:=by omega
 have HOspec.l3Inline:Hid (0<len->off=i*11):=hoff;clear hlen hoff;obtain⟨hn5,_⟩:=gd.c q hq;have n20:=gd.n20;have H0:Hid (PCp w0 bp np Pv blk):=h0;have GD:Hid (UGood Pv np):=gd;have HZ:Hid (Zd Pv np q<2000):=hz;have HC:Hid _:=hC;have HI:Hid _:=hI;have HCK:Hid ((chk (Pv q).L (q:Int) (np:Int) 16 i te depth).1=0):=hck;have HB0:Hid (Below w0.heap.size w0 w):=hb0;have lb:=(h0.b q hq).lt;have lp:=h0.r.lt;have lw:=hb0.size;clear h0 gd hz hC hI hck hb0;obtain⟨L,hL⟩:∃x,(Pv q).L=x:=⟨_,rfl⟩
 obtain⟨n,hn⟩:∃x,(Pv q).n=x:=⟨_,rfl⟩
 rw[hn]at hte hn5;obtain⟨B,hB⟩:∃x,Bdy Pv np=x:=⟨_,rfl⟩
 obtain⟨all,hall⟩:∃x,inlB B L i te=x:=⟨_,rfl⟩
 have HPT:Hid (∀i' te',i'<=te'->te'<=n->((inlB B L i' te').length:Int)<=2000):=(fun i' te' h1 h2=>by
  have:=GD.out.part hq HZ.out h1 (show te'<=(Pv q).n by omega);rw[hL,hB]at this;omega:∀i' te',i'<=te'->te'<=n->((inlB B L i' te').length:Int)<=2000)
 have HA:Hid (Arr w0 (blk q) (n*11) (stF L)):=(by rw[<-hn,<-hL];exact H0.out.b q hq:Arr w0 (blk q) (n*11) (stF L))
 have HCA:Hid (∀j,j<n->(L j).k=4->q<(L j).proc.toNat/\(L j).proc.toNat<np/\0<=(L j).proc/\Zd Pv np (L j).proc.toNat<2000):=(fun j hj k=>by
  rw[<-hL]at k⊢;obtain⟨c1,c2,c3⟩:=GD.out.calls hq (show j<(Pv q).n by omega) k;exact⟨c1,c2,c3,GD.out.small hq HZ.out (by omega) k⟩:∀j,j<n->(L j).k=4->q<(L j).proc.toNat/\(L j).proc.toNat<np/\0<=(L j).proc/\Zd Pv np (L j).proc.toNat<2000)
 rw[hL,hB,hall];have HALL:Hid (inlB B L i te=all):=hall;have HL:Hid ((Pv q).L=L):=hL;have HBB:Hid (Bdy Pv np=B):=hB;rw[hL]at HCK HI;clear hL hn hB hall;obtain⟨iS,gS,gS0,gS1,gS2⟩:=info_parts info_stmt;have HIS:Hid (_/\_/\_/\_):=⟨gS,gS0,gS1,gS2⟩
 clear gS gS0 gS1 gS2;go_enter Try.func21,Try.ntmps21;go_wp2_with fail;obtain⟨v0,hv0,hb1,ho1⟩:∃x,w.alloc (.cells #[] 33)=x/\Below w.heap.size w x/\x.ownsRow w.heap.size 33 11 (.slice (some ⟨w.heap.size,0,none⟩) 0 0) 0 []:=⟨_,rfl,(Below.refl _ _).alloc (Nat.le_refl _) _,World.ownsRow_lit w #[] 0 (Nat.le_refl _) (by unfold maxLen;omega) rfl⟩
 rw[hv0];have B1:Hid (Below w.heap.size w v0):=hb1;have O1:Hid (v0.ownsRow w.heap.size 33 11 (.slice (some ⟨w.heap.size,0,none⟩) 0 0) 0 []):=ho1;clear hv0 hb1 ho1;go_loopw [5,6](fun ov iv wr=>∃(j gg cc:Nat)(done:List SV),i+j<=te/\iv=.int .i64 (j:Int)/\ov=.slice (some ⟨gg,0,none⟩) done.length cc/\wr.ownsRow w.heap.size 33 11 (.slice (some ⟨gg,0,none⟩) done.length cc) done.length (cs done)/\Below w.heap.size w wr/\done++inlB B L (i+j) te=all/\(chk L (q:Int) (np:Int) 16 (i+j) te depth).1=0)(fun _ iv _=>len-(intOf iv).toNat)
 case atStart=>exact⟨0,_,_,[],by omega,rfl,rfl,O1.out,B1.out,by rw[Nat.add_zero];exact HALL.out,by rw[Nat.add_zero];exact HCK.out⟩
 case round=>
  obtain⟨j,gg,cc,done,hj,rfl,rfl,ho,hb,hd,hc⟩:=hrel;have O2:Hid (wr.ownsRow w.heap.size 33 11 (.slice (some ⟨gg,0,none⟩) done.length cc) done.length (cs done)):=ho;have B2:Hid (Below w.heap.size w wr):=hb;have HD:Hid (done++inlB B L (i+j) te=all):=hd;have HK:Hid ((chk L (q:Int) (np:Int) 16 (i+j) te depth).1=0):=hc;have hln:(done.length:Int)<=2000:=by
   have h1:=HPT.out i te hit hte;rw[HALL.out,<-hd,List.length_append]at h1;omega
  clear ho hb hd hc B1 O1;by_cases hlt:i+j<te
  rotate_left
  ·have hlt':¬(j:Int)<(len:Int):=by omega
   have hdone:done=all:=by have:=HD.out;rw[inlB_end hlt,List.append_nil]at this;exact this
   subst hdone;go_wp2;go_ret;exact⟨gg,cc,rfl,O2.out,B2.out⟩
  have hlt':(j:Int)<(len:Int):=by omega
  have hof:off=i*11:=HOspec.l3Inline.out (by omega);subst hof;clear HOspec.l3Inline;obtain⟨p,hp⟩:∃x,i+j=x:=⟨_,rfl⟩
  rw[hp]at hlt;have HP:Hid (i+j=p):=hp;have A2:Hid (Arr wr (blk q) (n*11) (stF L)):=(HA.out.below HB0.out (by omega)).below B2.out (by omega);obtain⟨s0,s1,s2,s3,s4,s5,s6,s7,s8,s9,s10⟩:=st_at (n:=n) A2.out p (by omega);rw[show p*11=i*11+j*11 by omega]at s0 s1 s2 s3 s4 s5 s6 s7 s8 s9 s10;rw[hp]at HD HK;clear hp;go_upto_region 5 with fail;clear s0 s1 s2 s3 s4 s5 s6 s7 s8 s9 s10;obtain⟨u1,hu1,hb1,hc1,hf1⟩:∃x,wr.alloc (.cells #[.int .i64 (L p).k,.int .i64 (L p).op,.int .i64 (L p).d,.int .i64 (L p).a,.int .i64 (L p).b,.int .i64 (L p).imm,.int .i64 (L p).h,.int .i64 (L p).cond,.int .i64 (L p).thn,.int .i64 (L p).els,.int .i64 (L p).proc] 33)=x/\Below wr.heap.size wr x/\Cl x wr.heap.size [.int .i64 (L p).k,.int .i64 (L p).op,.int .i64 (L p).d,.int .i64 (L p).a,.int .i64 (L p).b,.int .i64 (L p).imm,.int .i64 (L p).h,.int .i64 (L p).cond,.int .i64 (L p).thn,.int .i64 (L p).els,.int .i64 (L p).proc]/\∀k,x.frozen? ⟨wr.heap.size,k,none⟩=false:=⟨_,rfl,(Below.refl _ _).alloc (Nat.le_refl _) _,Cl.new,fun k=>by simp[go_sem]⟩
  rw[hu1];have wz:=B2.out.size;obtain⟨sb,hsb⟩:∃x,wr.heap.size=x:=⟨_,rfl⟩
  rw[hsb]at hb1 hc1 hf1 wz⊢;have S1:Hid (Cl u1 sb [.int .i64 (L p).k,.int .i64 (L p).op,.int .i64 (L p).d,.int .i64 (L p).a,.int .i64 (L p).b,.int .i64 (L p).imm,.int .i64 (L p).h,.int .i64 (L p).cond,.int .i64 (L p).thn,.int .i64 (L p).els,.int .i64 (L p).proc]):=hc1;have B3:Hid (Below w.heap.size w u1):=B2.out.trans (hb1.mono wz);have O3:Hid (u1.ownsRow w.heap.size 33 11 (.slice (some ⟨gg,0,none⟩) done.length cc) done.length (cs done)):=row_belowU O2.out (hsb▸hb1);have GL:gg<sb:=hsb▸(O2.out.lt gg rfl).2;have sl:=hc1.1;have HSB:Hid (sb=wr.heap.size):=hsb.symm;have SF:Hid (∀k,u1.frozen? ⟨sb,k,none⟩=false):=hf1;clear hu1 hb1 hc1 hf1 O2 B2 hsb A2;obtain⟨sok,hnt,k1,k2,k3⟩:=chk_next HK.out hlt;have HK1:Hid _:=k1;have HK2:Hid _:=k2;have HK3:Hid _:=k3;have HSOK:Hid (stOK (L p) (np:Int)=true):=sok;obtain⟨tp,ep⟩:=st_pos sok;clear k1 k2 k3 sok HK;obtain⟨c0,c1,c2,c3,c4,c5,c6,c7,c8,c9,c10⟩:=st_cl S1.out;by_cases hk:(L p).k=4
  ·obtain⟨x1,x2,x3,x4⟩:=HCA.out p (by omega) hk
   obtain⟨x,hx⟩:∃x:Nat,(L p).proc=(x:Int):=⟨(L p).proc.toNat,by omega⟩
   have e4:((L p).k==4)=true:=by simp[hk]
   have K4:Hid ((L p).k=4):=hk;have HX:Hid ((L p).proc=(x:Int)):=hx;rw[hx]at c10 x1 x2 x4;rw[Int.toNat_natCast]at x1 x2 x4;have X1:Hid (q<x/\Zd Pv np x<2000):=⟨x1,x4⟩
   clear hk hx x3 x1 x4;have x2':(x:Int)<(np:Int):=by omega
   have g0:u1.cell? ⟨bp,x,none⟩=some (.slice (some ⟨blk x,0,none⟩) (Pv x).n (Pv x).c):=(B3.out.cell (p:=⟨bp,x,none⟩) (by show bp<_;omega)).trans ((HB0.out.cell (p:=⟨bp,x,none⟩) (by show bp<_;omega)).trans (H0.out.r.cell x2));have ls:=B3.out.size;go_wp2_with fail;clear c0 c1 c2 c3 c4 c5 c6 c7 c8 c9 c10 g0;have hc:=HC.out x X1.out.1 x2 X1.out.2 0 (Pv x).n (Pv x).c u1 (by omega) (by omega) (H0.out.cp x x2) (HB0.out.trans (B3.out.mono lw));rw[<-GD.out.body x2,HBB.out]at hc;refine hc.mono ?_;rintro e u2⟨g2,cc2,rfl,ho2,hb2⟩;obtain⟨ea,eb⟩:=st_flat HSOK.out (.inr K4.out);have HD2:Hid (done++B x++inlB B L (p+1) te=all):=(by
    have h:=HD.out;rw[inlB_call hlt hnt K4.out,HX.out,Int.toNat_natCast,ea,eb]at h;rw[List.append_assoc];exact h:done++B x++inlB B L (p+1) te=all)
   have HK4:Hid ((chk L (q:Int) (np:Int) 16 (p+1) te depth).1=0):=(by have h:=HK3.out;rw[ea,eb]at h;exact h:(chk L (q:Int) (np:Int) 16 (p+1) te depth).1=0)
   obtain⟨m2,hm2⟩:∃y,(B x).length=y:=⟨_,rfl⟩
   have HM2:Hid ((B x).length=m2):=hm2;obtain⟨dl,hdl⟩:∃y,done.length=y:=⟨_,rfl⟩
   have HDL:Hid (done.length=dl):=hdl;have hsum:dl+m2<=2000:=by
    have h1:=HPT.out i te hit hte;rw[HALL.out,<-HD2.out]at h1;simp only[List.length_append]at h1;omega
   have B4:Hid (Below w.heap.size w u2):=B3.out.trans (hb2.mono ls);have O4:Hid (u2.ownsRow w.heap.size 33 11 (.slice (some ⟨gg,0,none⟩) dl cc) dl (cs done)):=(by rw[<-hdl];exact row_belowU O3.out hb2:u2.ownsRow w.heap.size 33 11 (.slice (some ⟨gg,0,none⟩) dl cc) dl (cs done))
   rw[hm2]at ho2⊢;have N4:Hid (u2.ownsRow u1.heap.size 33 11 (.slice (some ⟨g2,0,none⟩) m2 cc2) m2 (cs (B x))):=ho2;have lu:=B4.out.size;rw[hdl];clear ho2 hb2 hm2 hdl hc B3 O3 S1 SF;go_wp2_with(first|(at_builtin;refine wpList_append_own _ rfl _ _ 28 rfl w.heap.size 33 iS _ 11 88 Try.underlying28 HIS.out.1 HIS.out.2.1 HIS.out.2.2.1 HIS.out.2.2.2 rfl (by decide) (.slice (some ⟨gg,0,none⟩) dl cc) dl (cs done) rfl O4.out ⟨g2,0,none⟩ m2 cc2 (cs (B x)) rfl (by rw[cs_len,HM2.out]) (row_news N4.out) (cs_flat _) ?c3 ?c4 lu ?_)|go_in)
   case c3=>unfold maxLen;omega
   case c4=>omega
   intro v' w5 hown hgrow hnil;have B5:Hid (Below w.heap.size w w5):=B4.out.grown hgrow lu (fun k hk=>(O4.out.lt k hk).1);obtain⟨g5,cc5,rfl⟩:=row_at hown (by intro e;simp[e]at hnil);rw[<-cs_app]at hown;have O5:Hid (w5.ownsRow w.heap.size 33 11 (.slice (some ⟨g5,0,none⟩) (dl+m2) cc5) (dl+m2) (cs (done++B x))):=hown;clear hown hgrow hnil;go_wp2;go_roundw
   case rel=>
    have hl:(done++B x).length=dl+m2:=by rw[List.length_append,HDL.out,HM2.out]
    have hpp:=HP.out;exact⟨j+1,g5,cc5,done++B x,by omega,by go_num,by rw[hl],by rw[hl];exact O5.out,B5.out,by rw[show i+(j+1)=p+1 by omega];exact HD2.out,by rw[show i+(j+1)=p+1 by omega];exact HK4.out⟩
   case measure=>have hpp:=HP.out;simp[intOf];omega
  ·have e4:((L p).k==4)=false:=by simp[hk]
   have K4:Hid (¬(L p).k=4):=hk;obtain⟨a,ha⟩:∃x:Nat,(L p).thn=(x:Int):=⟨(L p).thn.toNat,by omega⟩
   obtain⟨b,hb⟩:∃x:Nat,(L p).els=(x:Int):=⟨(L p).els.toNat,by omega⟩
   have HA':Hid ((L p).thn=(a:Int)/\(L p).thn.toNat=a):=⟨ha,by omega⟩
   have HB':Hid ((L p).els=(b:Int)/\(L p).els.toNat=b):=⟨hb,by omega⟩
   rw[HA'.out.2,HB'.out.2]at hnt;rw[ha]at c8;rw[hb]at c9;have hij:=HP.out;have lz:a<=2000:=by omega
   have lz2:b<=2000:=by omega
   clear hk ha hb tp ep;obtain⟨aL,haL⟩:∃x,inlB B L (p+1) (p+1+a)=x:=⟨_,rfl⟩
   obtain⟨bL,hbL⟩:∃x,inlB B L (p+1+a) (p+1+a+b)=x:=⟨_,rfl⟩
   have HKA:Hid ((chk L (q:Int) (np:Int) 16 (p+1) (p+1+a) (depth+1)).1=0):=(by have h:=HK1.out;rw[HA'.out.2]at h;exact h:(chk L (q:Int) (np:Int) 16 (p+1) (p+1+a) (depth+1)).1=0)
   have HKB:Hid ((chk L (q:Int) (np:Int) 16 (p+1+a) (p+1+a+b) (depth+1)).1=0):=(by have h:=HK2.out;rw[HA'.out.2,HB'.out.2]at h;exact h:(chk L (q:Int) (np:Int) 16 (p+1+a) (p+1+a+b) (depth+1)).1=0)
   have HKC:Hid ((chk L (q:Int) (np:Int) 16 (p+1+a+b) te depth).1=0):=(by have h:=HK3.out;rw[HA'.out.2,HB'.out.2]at h;exact h:(chk L (q:Int) (np:Int) 16 (p+1+a+b) te depth).1=0)
   have HD2:Hid (done++((L p).put aL.length bL.length::(aL++bL))++inlB B L (p+1+a+b) te=all):=(by
    have h:=HD.out;rw[inlB_node hlt (by rw[HA'.out.2,HB'.out.2];exact hnt) K4.out,HA'.out.2,HB'.out.2,haL,hbL]at h;rw[<-h];simp:done++((L p).put aL.length bL.length::(aL++bL))++inlB B L (p+1+a+b) te=all)
   have hsum:done.length+1+aL.length+bL.length<=2000:=by
    have h1:=HPT.out i te hit hte;rw[HALL.out,<-HD2.out]at h1;simp only[List.length_append,List.length_cons]at h1;omega
   clear HK1 HK2 HK3 HD;have ls:=B3.out.size;go_upto_region 7 with fail;go_cut [8](fun av wx=>∃g2 cc2:Nat,av=.slice (some ⟨g2,0,none⟩) aL.length cc2/\wx.ownsRow u1.heap.size 33 11 (.slice (some ⟨g2,0,none⟩) aL.length cc2) aL.length (cs aL)/\Below u1.heap.size u1 wx)
   case first=>
    go_wp2_with fail;all_goals
     try(have hcj:cap'=j+1:=by assumption
         subst hcj)
     have hc:=HI.out (p+1) (p+1+a) (depth+1) (by omega) (by omega) (by omega) (by omega) HKA.out;unfold InlC at hc;rw[HL.out,HBB.out,haL]at hc;refine(hc _ a _ u1 (by omega) (by omega) (by omega) (HB0.out.trans (B3.out.mono lw))).mono ?_;rintro e u2⟨g2,cc2,rfl,ho2,hb2⟩;clear c0 c1 c2 c3 c4 c5 c6 c7 c8 c9 c10 hc;go_wp2_with fail;go_meet;exact⟨g2,cc2,rfl,ho2,hb2⟩
   case rest=>
   obtain⟨g2,cc2,rfl,ho2,hb2⟩:=hcut;generalize wc=wa at ho2 hb2⊢;clear wc;have B4:Hid (Below w.heap.size w wa):=B3.out.trans (hb2.mono ls);have O4:Hid (wa.ownsRow w.heap.size 33 11 (.slice (some ⟨gg,0,none⟩) done.length cc) done.length (cs done)):=row_belowU O3.out hb2;have S4:Hid (Cl wa sb [.int .i64 (L p).k,.int .i64 (L p).op,.int .i64 (L p).d,.int .i64 (L p).a,.int .i64 (L p).b,.int .i64 (L p).imm,.int .i64 (L p).h,.int .i64 (L p).cond,.int .i64 (L p).thn,.int .i64 (L p).els,.int .i64 (L p).proc]):=S1.out.below hb2;have SF4:Hid (∀k,wa.frozen? ⟨sb,k,none⟩=false):=fun k=>(hb2.frozen (p:=⟨sb,k,none⟩) sl).trans (SF.out k)
   have NA:Hid (wa.ownsRow u1.heap.size 33 11 (.slice (some ⟨g2,0,none⟩) aL.length cc2) aL.length (cs aL)):=ho2;have GA:u1.heap.size<=g2:=(ho2.lt g2 rfl).1;have GA2:g2<wa.heap.size:=(ho2.lt g2 rfl).2;have z2:=hb2.size;clear c0 c1 c2 c3 c4 c5 c6 c7 c8 c9 c10 ho2 hb2 O3 S1 SF B3;obtain⟨c0,c1,c2,c3,c4,c5,c6,c7,c8,c9,c10⟩:=st_cl S4.out;rw[HA'.out.1]at c8;rw[HB'.out.1]at c9;have ls2:=B4.out.size;have sl2:=S4.out.1;go_upto_region 8 with fail;go_cut [9](fun av wx=>∃g3 cc3:Nat,av=.slice (some ⟨g3,0,none⟩) bL.length cc3/\wx.ownsRow wa.heap.size 33 11 (.slice (some ⟨g3,0,none⟩) bL.length cc3) bL.length (cs bL)/\Below wa.heap.size wa wx)
   case first=>
    go_wp2_with fail;all_goals
     try(have hcj:cap'=j+1+a:=by assumption
         subst hcj)
     have hc:=HI.out (p+1+a) (p+1+a+b) (depth+1) (by omega) (by omega) (by omega) (by omega) HKB.out;unfold InlC at hc;rw[HL.out,HBB.out,hbL]at hc;refine(hc _ b _ wa (by omega) (by omega) (by omega) (HB0.out.trans (B4.out.mono lw))).mono ?_;rintro e u2⟨g3,cc3,rfl,ho3,hb3⟩;clear c0 c1 c2 c3 c4 c5 c6 c7 c8 c9 c10 hc;go_wp2_with fail;go_meet;exact⟨g3,cc3,rfl,ho3,hb3⟩
   case rest=>
   obtain⟨g3,cc3,rfl,ho3,hb3⟩:=hcut;generalize wc=wb at ho3 hb3⊢;clear wc;have B5:Hid (Below w.heap.size w wb):=B4.out.trans (hb3.mono ls2);obtain⟨dl,hdl⟩:∃y,done.length=y:=⟨_,rfl⟩
   obtain⟨la,hla⟩:∃y,aL.length=y:=⟨_,rfl⟩
   obtain⟨lb',hlb⟩:∃y,bL.length=y:=⟨_,rfl⟩
   have O5:Hid (wb.ownsRow w.heap.size 33 11 (.slice (some ⟨gg,0,none⟩) dl cc) dl (cs done)):=(by rw[<-hdl];exact row_belowU O4.out hb3:wb.ownsRow w.heap.size 33 11 (.slice (some ⟨gg,0,none⟩) dl cc) dl (cs done))
   have S5:Hid (Cl wb sb [.int .i64 (L p).k,.int .i64 (L p).op,.int .i64 (L p).d,.int .i64 (L p).a,.int .i64 (L p).b,.int .i64 (L p).imm,.int .i64 (L p).h,.int .i64 (L p).cond,.int .i64 (L p).thn,.int .i64 (L p).els,.int .i64 (L p).proc]):=S4.out.below hb3;have SF5:Hid (∀k,wb.frozen? ⟨sb,k,none⟩=false):=fun k=>(hb3.frozen (p:=⟨sb,k,none⟩) sl2).trans (SF4.out k)
   have NA5:Hid (wb.ownsRow u1.heap.size 33 11 (.slice (some ⟨g2,0,none⟩) la cc2) la (cs aL)):=(by rw[<-hla];exact row_belowU NA.out hb3:wb.ownsRow u1.heap.size 33 11 (.slice (some ⟨g2,0,none⟩) la cc2) la (cs aL))
   have NB5:Hid (wb.ownsRow wa.heap.size 33 11 (.slice (some ⟨g3,0,none⟩) lb' cc3) lb' (cs bL)):=(by rw[<-hlb];exact ho3:wb.ownsRow wa.heap.size 33 11 (.slice (some ⟨g3,0,none⟩) lb' cc3) lb' (cs bL))
   have GB:wa.heap.size<=g3:=(ho3.lt g3 rfl).1;have GB2:g3<wb.heap.size:=(ho3.lt g3 rfl).2;have z3:=hb3.size;rw[hdl,hla,hlb];rw[hdl,hla,hlb]at hsum;have HDL:Hid (done.length=dl/\aL.length=la/\bL.length=lb'):=⟨hdl,hla,hlb⟩
   clear c0 c1 c2 c3 c4 c5 c6 c7 c8 c9 c10 ho3 hb3 O4 S4 SF4 B4 NA hdl hla hlb;obtain⟨c0,c1,c2,c3,c4,c5,c6,c7,c8,c9,c10⟩:=st_cl S5.out;rw[HA'.out.1]at c8;rw[HB'.out.1]at c9;have sl5:=S5.out.1;have sf5:=SF5.out;go_upto_region 12 with fail;obtain⟨u4,hu4,F4,C4⟩:∃x,(wb.setCell ⟨sb,8,none⟩ (.int .i64 (la:Int))).setCell ⟨sb,9,none⟩ (.int .i64 (lb':Int))=x/\Hid (Ft sb wb x)/\Cl x sb [.int .i64 (L p).k,.int .i64 (L p).op,.int .i64 (L p).d,.int .i64 (L p).a,.int .i64 (L p).b,.int .i64 (L p).imm,.int .i64 (L p).h,.int .i64 (L p).cond,.int .i64 (la:Int),.int .i64 (lb':Int),.int .i64 (L p).proc]:=⟨_,rfl,((Ft.refl _ _).set _ _).set _ _,by simpa using sl5,fun k hk=>by
    match k,hk with
    |0,_=>simp[go_sem,c0]
    |1,_=>simp[go_sem,c1]
    |2,_=>simp[go_sem,c2]
    |3,_=>simp[go_sem,c3]
    |4,_=>simp[go_sem,c4]
    |5,_=>simp[go_sem,c5]
    |6,_=>simp[go_sem,c6]
    |7,_=>simp[go_sem,c7]
    |8,_=>simp[go_sem,c8]
    |9,_=>simp[go_sem,c9]
    |10,_=>simp[go_sem,c10]⟩
   rw[hu4];clear hu4 c0 c1 c2 c3 c4 c5 c6 c7 c8 c9 c10 sf5 sl5;have B6:Hid (Below w.heap.size w u4):=B5.out.trans (F4.out.under B5.out.size (by omega));have O6:Hid (u4.ownsRow w.heap.size 33 11 (.slice (some ⟨gg,0,none⟩) dl cc) dl (cs done)):=row_ft O5.out F4.out (by simp[Value.ownBlock];omega);have NA6:Hid (u4.ownsRow u1.heap.size 33 11 (.slice (some ⟨g2,0,none⟩) la cc2) la (cs aL)):=row_ft NA5.out F4.out (by simp[Value.ownBlock];omega);have NB6:Hid (u4.ownsRow wa.heap.size 33 11 (.slice (some ⟨g3,0,none⟩) lb' cc3) lb' (cs bL)):=row_ft NB5.out F4.out (by simp[Value.ownBlock];omega);have z4:=F4.out.size;have lu4:=B6.out.size;obtain⟨c0,c1,c2,c3,c4,c5,c6,c7,c8,c9,c10⟩:=st_cl (s:=(L p).put la lb') C4;simp only[SV.put]at c0 c1 c2 c3 c4 c5 c6 c7 c8 c9 c10;have sl6:=C4.1;clear C4 B5 O5 NA5 NB5 S5 SF5 F4;go_wp2_with(first|(at_builtin;refine wpList_append_own_at _ rfl _ _ 28 rfl w.heap.size 33 iS _ 11 88 Try.underlying28 HIS.out.1 HIS.out.2.1 HIS.out.2.2.1 HIS.out.2.2.2 rfl (by decide) (.slice (some ⟨gg,0,none⟩) dl cc) dl (cs done) rfl (row_belowU O6.out ((Below.refl _ _).alloc (Nat.le_refl _) _)) ⟨u4.heap.size,0,none⟩ 1 1 (stL ((L p).put la lb')) rfl rfl (cells_new _ _ _) (by rw[<-cs_one];exact cs_flat _) ?c3 ?c4 ?c5 ?_)|go_in)
   case c3=>unfold maxLen;omega
   case c4=>omega
   case c5=>simp;omega
   intro v5 w5 hown hgrow hnil hat;have B7:Hid (Below w.heap.size w w5):=(B6.out.alloc lu4 _).grown hgrow (by simp;omega) (fun k hk=>(O6.out.lt k hk).1);obtain⟨g5,cc5,rfl⟩:=row_at hown (by intro e;simp[e]at hnil);have hg5:g5=gg∨g5=u4.heap.size+1:=by simpa[Value.ownBlock]using hat
   rw[<-cs_one,<-cs_app]at hown;have O7:Hid (w5.ownsRow w.heap.size 33 11 (.slice (some ⟨g5,0,none⟩) (dl+1) cc5) (dl+1) (cs (done++[(L p).put la lb']))):=hown;have NA7:Hid (w5.ownsRow u1.heap.size 33 11 (.slice (some ⟨g2,0,none⟩) la cc2) la (cs aL)):=row_grown (row_belowU NA6.out ((Below.refl _ _).alloc (Nat.le_refl _) _)) hgrow (by simp[Value.ownBlock];omega);have NB7:Hid (w5.ownsRow wa.heap.size 33 11 (.slice (some ⟨g3,0,none⟩) lb' cc3) lb' (cs bL)):=row_grown (row_belowU NB6.out ((Below.refl _ _).alloc (Nat.le_refl _) _)) hgrow (by simp[Value.ownBlock];omega);have lu5:=B7.out.size;clear hown hgrow hnil hat c0 c1 c2 c3 c4 c5 c6 c7 c8 c9 c10 B6 O6 NA6 NB6;go_wp2_with(first|(at_builtin;refine wpList_append_own_at _ rfl _ _ 28 rfl w.heap.size 33 iS _ 11 88 Try.underlying28 HIS.out.1 HIS.out.2.1 HIS.out.2.2.1 HIS.out.2.2.2 rfl (by decide) (.slice (some ⟨g5,0,none⟩) (dl+1) cc5) (dl+1) (cs (done++[(L p).put la lb'])) rfl O7.out ⟨g2,0,none⟩ la cc2 (cs aL) rfl (by rw[cs_len,HDL.out.2.1]) (row_news NA7.out) (cs_flat _) ?c3 ?c4 ?c5 ?_)|go_in)
   case c3=>unfold maxLen;omega
   case c4=>omega
   case c5=>exact lu5
   intro v6 w6 hown hgrow hnil hat;have B8:Hid (Below w.heap.size w w6):=B7.out.grown hgrow lu5 (fun k hk=>(O7.out.lt k hk).1);obtain⟨g6,cc6,rfl⟩:=row_at hown (by intro e;simp[e]at hnil);rw[<-cs_app]at hown;have O8:Hid (w6.ownsRow w.heap.size 33 11 (.slice (some ⟨g6,0,none⟩) (dl+1+la) cc6) (dl+1+la) (cs (done++[(L p).put la lb']++aL))):=hown;have NB8:Hid (w6.ownsRow wa.heap.size 33 11 (.slice (some ⟨g3,0,none⟩) lb' cc3) lb' (cs bL)):=row_grown NB7.out hgrow (by simp[Value.ownBlock];omega);have lu6:=B8.out.size;clear hown hgrow hnil hat O7 NA7 NB7 B7;go_wp2_with(first|(at_builtin;refine wpList_append_own_at _ rfl _ _ 28 rfl w.heap.size 33 iS _ 11 88 Try.underlying28 HIS.out.1 HIS.out.2.1 HIS.out.2.2.1 HIS.out.2.2.2 rfl (by decide) (.slice (some ⟨g6,0,none⟩) (dl+1+la) cc6) (dl+1+la) (cs (done++[(L p).put la lb']++aL)) rfl O8.out ⟨g3,0,none⟩ lb' cc3 (cs bL) rfl (by rw[cs_len,HDL.out.2.2]) (row_news NB8.out) (cs_flat _) ?c3 ?c4 ?c5 ?_)|go_in)
   case c3=>unfold maxLen;omega
   case c4=>omega
   case c5=>exact lu6
   intro v7 w7 hown hgrow hnil hat;have B9:Hid (Below w.heap.size w w7):=B8.out.grown hgrow lu6 (fun k hk=>(O8.out.lt k hk).1);obtain⟨g7,cc7,rfl⟩:=row_at hown (by intro e;simp[e]at hnil);rw[<-cs_app]at hown;have O9:Hid (w7.ownsRow w.heap.size 33 11 (.slice (some ⟨g7,0,none⟩) (dl+1+la+lb') cc7) (dl+1+la+lb') (cs (done++[(L p).put la lb']++aL++bL))):=(by rw[show done++[(L p).put la lb']++aL++bL=done++(L p).put la lb'::aL++bL by simp];exact hown:w7.ownsRow w.heap.size 33 11 (.slice (some ⟨g7,0,none⟩) (dl+1+la+lb') cc7) (dl+1+la+lb') (cs (done++[(L p).put la lb']++aL++bL)))
   clear hown hgrow hnil hat O8 NB8 B8;go_wp2;go_roundw
   case rel=>
    obtain⟨h1,h2,h3⟩:=HDL.out;have hl:(done++[(L p).put la lb']++aL++bL).length=dl+1+la+lb':=by simp[h1,h2,h3];omega
    have hpp:=HP.out;refine⟨j+a+b+1,g7,cc7,done++[(L p).put la lb']++aL++bL,by omega,by go_num,by rw[hl],by rw[hl];exact O9.out,B9.out,?_,?_⟩
    ·rw[show i+(j+a+b+1)=p+1+a+b by omega]
     have h:=HD2.out;rw[h2,h3]at h;rw[<-h];simp
    ·rw[show i+(j+a+b+1)=p+1+a+b by omega];exact HKC.out
   case measure=>have hpp:=HP.out;simp[intOf];omega
theorem l3Inline_any(bp np cap:Nat)(Pv:Nat->PV)(blk:Nat->Nat)(w0:World)(h0:PCp w0 bp np Pv blk)(gd:UGood Pv np):∀(f q:Nat),np-q<=f->q<np->Zd Pv np q<2000->∀(m i te:Nat)(depth:Int),te-i<=m->i<=te->te<=(Pv q).n->(chk (Pv q).L (q:Int) (np:Int) 16 i te depth).1=0->InlC bp np cap Pv blk w0 q i te:=by
 intro f;induction f with
 |zero=>intro q h1 h2;omega
 |succ f ihf=>
  intro q hf hq hz m;induction m with
  |zero=>
   intro i te depth hm hit hte hck;exact l3Inline_go bp np cap Pv blk w0 h0 gd q i te depth hq hz hit hte hck (fun x h1 h2 h3=>ihf x (by omega) h2 h3 _ 0 (Pv x).n 0 (Nat.le_refl _) (Nat.zero_le _) (Nat.le_refl _) (gd.c x h2).2) (fun i' te' d h1 h2 h3 h4 h5=>by omega)
  |succ m ihm=>
   intro i te depth hm hit hte hck;exact l3Inline_go bp np cap Pv blk w0 h0 gd q i te depth hq hz hit hte hck (fun x h1 h2 h3=>ihf x (by omega) h2 h3 _ 0 (Pv x).n 0 (Nat.le_refl _) (Nat.zero_le _) (Nat.le_refl _) (gd.c x h2).2) (fun i' te' d h1 h2 h3 h4 h5=>ihm i' te' d (by omega) h2 (by omega) h5)
def inlR(Pv:Nat->PV)(np:Nat):List SV:=if(unitR Pv np).1≠0 then[]else Bdy Pv np 0
theorem unit_good{Pv:Nat->PV}{np:Nat}(h:(unitR Pv np).1=0):UGood Pv np:=by
 unfold unitR at h;by_cases h1:np<1∨20<np
 ·rw[if_pos h1]at h;exact absurd h (by decide)
 rw[if_neg h1]at h;by_cases h2:(findBad Pv np np 0).1≠0
 ·rw[if_pos h2]at h;exact absurd h h2
 rw[if_neg h2]at h;by_cases h3:2000<zs Pv np np 0+1
 ·rw[if_pos h3]at h;exact absurd h (by decide)
 have hz:=pz_zs Pv np np 0;refine⟨by omega,by omega,fun q hq=>?_,by omega⟩;obtain⟨a,b⟩:=find_all np 0 (by simpa using h2) q (Nat.zero_le _) (by omega);exact⟨by omega,b⟩
theorem specInline_any(bp np cap:Nat)(Pv:Nat->PV)(blk:Nat->Nat)(w:World)(ln:np<=1048576)(lb:∀i,i<np->(Pv i).n<=1048576)(h:PCp w bp np Pv blk):
 Calls Try.prog 9 #[.slice (some ⟨bp,0,none⟩) np cap] w fun e w'=>∃g c:Nat,e=.returned (.slice (some ⟨g,0,none⟩) (inlR Pv np).length c)/\w'.ownsRow w.heap.size 33 11 (.slice (some ⟨g,0,none⟩) (inlR Pv np).length c) (inlR Pv np).length (cs (inlR Pv np))/\Below w.heap.size w w':=by
 have H:Hid (PCp w bp np Pv blk):=h;have LB:Hid (∀i,i<np->(Pv i).n<=1048576):=lb;clear h lb;obtain⟨out,hout⟩:∃x,inlR Pv np=x:=⟨_,rfl⟩
 rw[hout];have HOUT:Hid (inlR Pv np=out):=hout;clear hout;go_enter Try.func9,Try.ntmps9;go_wp2_with fail;refine(specUnit_any bp np cap Pv blk w ln LB.out H.out).mono ?_;rintro e w1⟨rfl,hb1⟩;obtain⟨res,hres⟩:∃x,unitR Pv np=x:=⟨_,rfl⟩
 rw[hres];have HR:Hid (unitR Pv np=res):=hres;have B1:Hid (Below w.heap.size w w1):=hb1;clear hb1 hres;obtain⟨x,y,z⟩:=res;have hfd:∀w:World,(Instr.field 26 (.agg #[.int .i64 x,.int .i64 y,.int .i64 z]) 0).run Try.prog w=.ok (.int .i64 x) w:=fun _=>by kernel_rfl
 by_cases hx:x=0
 ·subst hx
  have GD:Hid (UGood Pv np):=unit_good (by rw[HR.out]);have e1:1<=np:=GD.out.n1;have hnp:(0:Int)<(np:Int):=by omega
  have g0:w1.cell? ⟨bp,0,none⟩=some (.slice (some ⟨blk 0,0,none⟩) (Pv 0).n (Pv 0).c):=(B1.out.cell (p:=⟨bp,0,none⟩) H.out.r.lt).trans (H.out.r.cell e1);have lbp:bp<w1.heap.size:=Nat.lt_of_lt_of_le H.out.r.lt B1.out.size;go_wp2_with fail;have hc:=l3Inline_any bp np cap Pv blk w H.out GD.out np 0 (by omega) (by omega) GD.out.z _ 0 (Pv 0).n 0 (Nat.le_refl _) (Nat.zero_le _) (Nat.le_refl _) (GD.out.c 0 (by omega)).2 0 (Pv 0).n (Pv 0).c w1 (by omega) (by omega) (H.out.cp 0 (by omega)) B1.out;rw[<-GD.out.body (by omega),show Bdy Pv np 0=out by rw[<-HOUT.out,inlR,if_neg (by rw[HR.out];simp)]]at hc;refine hc.mono ?_;rintro e w2⟨g,c,rfl,ho,hb⟩;have B2:Hid (Below w.heap.size w w2):=B1.out.trans (hb.mono B1.out.size);have O2:Hid (w2.ownsRow w.heap.size 33 11 (.slice (some ⟨g,0,none⟩) out.length c) out.length (cs out)):=ho.mono B1.out.size;clear hc ho hb g0;go_wp2;go_ret;exact⟨g,c,rfl,O2.out,B2.out⟩
 ·have ex:(x !=0)=true:=by simp[hx]
  have ho:out=[]:=by rw[<-HOUT.out,inlR,if_pos (by rw[HR.out];exact hx)]
  subst ho;clear hx;have lw:=B1.out.size;go_wp2;go_ret;exact⟨_,_,rfl,World.ownsRow_lit w1 #[] 0 lw (by unfold maxLen;omega) rfl,B1.out.alloc lw _⟩
end Go.Proofs.Ytplnpgohdgialaa
