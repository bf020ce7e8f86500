import Derived.Test.YtfpeecaaleijcaaGreatDoorOfCl
import Derived.Test.YtfpeecaaleijcaaGreatDoorOfUnitBlock
import Derived.Test.YtfpeecaaleijcaaGreatDoorOfTransAbs
import Derived.Deep.Onto
set_option maxHeartbeats 16000000
set_option maxRecDepth 20000
namespace Go.Proofs.YtfpeecaaleijcaaGreatDoor
open Go.RowKit
variable {n np:Nat}{Z:Nat->Int}{s:SV}{w:World}
def zF(Z:Nat->Int)(i:Nat):Value:=Vi (Z i)
def wI(s:SV)(Z:Nat->Int):Int:=if s.k=1 then 1 else if s.k=4 then Z s.proc.toNat else 2
def Bf(L:Nat->SV)(Z:Nat->Int):Nat->Int
 |0=>0
 |k+1=>Bf L Z k+wI (L k) Z
theorem UN(h:∀i,0<=Z i):0<=wI s Z:=by
 unfold wI;split
 ·omega
 ·split
  ·exact h _
  ·omega
theorem fB(h:∀i,Z i<=2001):wI s Z<=2001:=by
 unfold wI;split
 ·omega
 ·split
  ·exact h _
  ·omega
theorem E9{L:Nat->SV}(h:∀i,0<=Z i){k:Nat}(hk:k<=n):Bf L Z k<=Bf L Z n:=by
 induction n with
 |zero=>rw[show k=0 by omega];exact Int.le_refl _
 |succ n ih=>
  by_cases e:k=n+1
  ·rw[e];exact Int.le_refl _
  ·have:=ih (by omega)
   have:=UN (s:=L n) h;show Bf L Z k<=Bf L Z n+wI (L n) Z;omega
theorem Ej{L:Nat->SV}(h:∀i,0<=Z i)(k:Nat):0<=Bf L Z k:=E9 h (Nat.zero_le k)
def Ic(x:Int):Int:=if 2000<x then 2001 else x
theorem UE(b n cap:Nat)(L:Nat->SV)(bz nz cz:Nat)(Z:Nat->Int)(w:World)(ln:n<=1048576)(hA:A9 w b (n*11) (IU L))(hZ:At w bz 0 nz (zF Z))(z0:∀i,0<=Z i)(z1:∀i,Z i<=2001)(hp:∀j,j<n->(L j).k=4->0<=(L j).proc/\(L j).proc<nz):
 Calls Tryz.prog 49 #[Vs b n cap,Vs bz nz cz] w fun e w'=>e=.returned (Vi (Ic (Bf L Z n)))/\w'=w:=by
 have HA:=hxy hA;have HZ:=hxy hZ;have HP:=hxy hp;have Z0:=hxy z0;have Z1:=hxy z1;have lb:=hA.lt;have lbz:=hZ.lt;clear hA hZ hp z0 z1;obtain⟨res,hres⟩:=Ae (Ic (Bf L Z n));rw[hres];have HR:=hxy hres;clear hres;go_enter Tryz.func49,Tryz.ntmps49;go_wp2;go_loopw [5,6](fun nv iv wr=>∃j:Nat,j<=n/\iv=Vi (j:Int)/\nv=Vi (Bf L Z j)/\Bf L Z j<=4001/\wr=w)(fun _ iv _=>n-(intOf iv).toNat)
 case atStart=>exact⟨0,Nat.zero_le _,rfl,rfl,by simp[Bf],rfl⟩
 case round=>
  obtain⟨j,hj,rfl,rfl,h4,rfl⟩:=hrel;have p0:=Ej (L:=L) Z0.out j;have HS:Hid (Bf L Z (j+1)=Bf L Z j+wI (L j) Z):=rfl;have HMN:Hid (Bf L Z j<=Bf L Z n):=E9 Z0.out hj;obtain⟨x,hx⟩:=Ae (Bf L Z j);have HX:=hxy hx;rw[hx]at h4 p0⊢;clear hx;by_cases hlt:j<n
  ·have hlt':(j:Int)<(n:Int):=by omega
   obtain⟨s0,_,_,_,_,_,_,_,_,_,s10⟩:=Eu HA.out j hlt;by_cases hx2:x<=2000
   ·have e0:decide (x<=2000)=true:=by simp[hx2]
    by_cases k1:(L j).k=1
    ·have e1:((L j).k==1)=true:=by simp[k1]
     have HW:Hid (wI (L j) Z=1):=(by simp[wI,k1]:wI (L j) Z=1)
     clear k1;go_wp2;go_roundw
     case rel=>exact⟨j+1,by omega,by go_num,by rw[HS.out,HX.out,HW.out],by rw[HS.out,HX.out,HW.out];omega,by first|rfl|trivial⟩
     case measure=>simp[intOf];omega
    ·have e1:((L j).k==1)=false:=by simp[k1]
     by_cases k4:(L j).k=4
     ·have e4:((L j).k==4)=true:=by simp[k4]
      obtain⟨q0,q1⟩:=HP.out j hlt k4;obtain⟨q,hq⟩:∃y:Nat,(L j).proc=(y:Int):=⟨(L j).proc.toNat,by omega⟩
      have HW:Hid (wI (L j) Z=Z q):=(by simp[wI,k4,hq]:wI (L j) Z=Z q)
      rw[hq]at s10;have hqn:q<nz:=by omega
      have hqn':(q:Int)<(nz:Int):=by omega
      have g0:wr.cell? (Va bz q)=some (Vi (Z q)):=by have:=HZ.out.cell hqn;rwa [Nat.zero_add]at this
      have y0:=Z0.out q;have y1:=Z1.out q;obtain⟨y,hy⟩:=Ae (Z q);have HY:=hxy hy;rw[hy]at g0 y0 y1;clear k1 k4 hy q0 q1 hq;go_wp2;go_roundw
      case rel=>exact⟨j+1,by omega,by go_num,by rw[HS.out,HX.out,HW.out,HY.out],by rw[HS.out,HX.out,HW.out,HY.out];omega,by first|rfl|trivial⟩
      case measure=>simp[intOf];omega
     ·have e4:((L j).k==4)=false:=by simp[k4]
      have HW:Hid (wI (L j) Z=2):=(by simp[wI,k1,k4]:wI (L j) Z=2)
      clear k1 k4;go_wp2;go_roundw
      case rel=>exact⟨j+1,by omega,by go_num,by rw[HS.out,HX.out,HW.out],by rw[HS.out,HX.out,HW.out];omega,by first|rfl|trivial⟩
      case measure=>simp[intOf];omega
   ·have e0:decide (x<=2000)=false:=by simp;omega
    have e5:decide (2000<x)=true:=by simp;omega
    go_wp2;go_ret;exact⟨Bp (by rw[<-HR.out,Ic,if_pos (by have:=HMN.out;rw[HX.out]at this;omega)]),rfl⟩
  ·obtain rfl:j=n:=by omega
   have hlt':¬(j:Int)<(j:Int):=by omega
   by_cases hx2:x<=2000
   ·have e5:decide (2000<x)=false:=by simp;omega
    go_wp2;go_ret;exact⟨Bp (by rw[<-HR.out,Ic,HX.out,if_neg (by omega)]),rfl⟩
   ·have e5:decide (2000<x)=true:=by simp;omega
    go_wp2;go_ret;exact⟨Bp (by rw[<-HR.out,Ic,HX.out,if_pos (by omega)]),rfl⟩
structure PV where
 n:Nat
 L:Nat->SV
 c:Nat
def pF(Pv:Nat->PV)(blk:Nat->Nat)(i:Nat):Value:=.slice (some ⟨blk i,0,none⟩) (Pv i).n (Pv i).c
structure TP(w:World)(bp np:Nat)(Pv:Nat->PV)(blk:Nat->Nat):Prop where
 r:A9 w bp np (pF Pv blk)
 b:∀i,i<np->A9 w (blk i) ((Pv i).n*11) (IU (Pv i).L)
 cp:∀i,i<np->(Pv i).n<=(Pv i).c
theorem TP.below{w':World}{bp:Nat}{Pv:Nat->PV}{blk:Nat->Nat}(h:TP w bp np Pv blk)(hb:Below w.heap.size w w'):TP w' bp np Pv blk:=
 ⟨h.r.below hb h.r.lt,fun i hi=>(h.b i hi).below hb (h.b i hi).lt,h.cp⟩
def Bt(Pv:Nat->PV)(np:Nat):Nat->Nat->Int×Int×Int
 |0,_=>(0,0,0)
 |k+1,p=>if 500<(Pv p).n then(1,(p:Int),0)else if(CZ (Pv p).L (p:Int) (np:Int) 16 0 (Pv p).n 0).1≠0 then((CZ (Pv p).L (p:Int) (np:Int) 16 0 (Pv p).n 0).1,(p:Int),(CZ (Pv p).L (p:Int) (np:Int) 16 0 (Pv p).n 0).2)else Bt Pv np k (p+1)
def zs(Pv:Nat->PV)(np:Nat):Nat->Nat->Int
 |0=>fun _=>0
 |k+1=>fun i=>if i=np-1-k then Ic (Bf (Pv (np-1-k)).L (zs Pv np k) (Pv (np-1-k)).n)else zs Pv np k i
def Bz(Pv:Nat->PV)(np:Nat):Int×Int×Int:=
 if np<1∨20<np then(1,0,0)else if(Bt Pv np np 0).1≠0 then Bt Pv np np 0 else if 2000<zs Pv np np 0+1 then(6,0,0)else(0,0,0)
theorem aU{x:Int}(h:0<=x):0<=Ic x/\Ic x<=2001:=by unfold Ic;split<;>omega
theorem Uo(Pv:Nat->PV)(np k:Nat):∀i,0<=zs Pv np k i/\zs Pv np k i<=2001:=by
 induction k with
 |zero=>intro i;exact⟨Int.le_refl _,by show(0:Int)<=2001;decide⟩
 |succ k ih=>
  intro i;show 0<=(if i=np-1-k then Ic (Bf (Pv (np-1-k)).L (zs Pv np k) (Pv (np-1-k)).n)else zs Pv np k i)/\(if i=np-1-k then Ic (Bf (Pv (np-1-k)).L (zs Pv np k) (Pv (np-1-k)).n)else zs Pv np k i)<=2001;split
  ·exact aU (Ej (fun i=>(ih i).1) _)
  ·exact ih i
theorem aX(L:Nat->SV)(me procs deep:Int):∀(m i te:Nat)(depth:Int),te-i<=m->(CZ L me procs deep i te depth).1=0->∀j,i<=j->j<te->BG (L j) procs=true:=by
 intro m;induction m using Nat.strongRecOn with
 |ind m ih=>
 intro i te depth hm h0 j hij hjt;have hlt:i<te:=by omega
 by_cases h1:BG (L i) procs=false
 ·rw[Lc hlt h1]at h0;exact absurd h0 (by simp)
 by_cases h2:i+1+(L i).thn.toNat+(L i).els.toNat<=te
 rotate_left
 ·rw[Fx hlt h1 h2]at h0;exact absurd h0 (by simp)
 by_cases h3:((L i).k=2∨(L i).k=3)/\deep<=depth
 ·rw[Gs hlt h1 h2 h3]at h0;exact absurd h0 (by simp)
 by_cases h4:(L i).k=4/\(L i).proc<=me
 ·rw[LX hlt h1 h2 h3 h4]at h0;exact absurd h0 (by simp)
 rw[JU hlt h1 h2 h3 h4]at h0;by_cases z1:(CZ L me procs deep (i+1) (i+1+(L i).thn.toNat) (depth+1)).1≠0
 ·rw[if_pos z1]at h0;exact absurd h0 z1
 rw[if_neg z1]at h0;by_cases z2:(CZ L me procs deep (i+1+(L i).thn.toNat) (i+1+(L i).thn.toNat+(L i).els.toNat) (depth+1)).1≠0
 ·rw[if_pos z2]at h0;exact absurd h0 z2
 rw[if_neg z2]at h0;by_cases e:j=i
 ·rw[e];simpa using h1
 by_cases e1:j<i+1+(L i).thn.toNat
 ·exact ih (te-i-1) (by omega) (i+1) _ (depth+1) (by omega) (by simpa using z1) j (by omega) e1
 by_cases e2:j<i+1+(L i).thn.toNat+(L i).els.toNat
 ·exact ih (te-i-1) (by omega) (i+1+(L i).thn.toNat) _ (depth+1) (by omega) (by simpa using z2) j (by omega) e2
 ·exact ih (te-i-1) (by omega) _ te depth (by omega) h0 j (by omega) hjt
theorem Jv{procs:Int}(h:BG s procs=true)(k:s.k=4):0<=s.proc/\s.proc<procs:=by
 unfold BG at h;rw[if_neg (by omega),if_neg (by omega),if_neg (by omega),if_pos k]at h;have:=of_decide_eq_true h;omega
theorem KH{Pv:Nat->PV}{k p:Nat}(h1:¬500<(Pv p).n)(h2:¬(CZ (Pv p).L (p:Int) (np:Int) 16 0 (Pv p).n 0).1≠0):Bt Pv np (k+1) p=Bt Pv np k (p+1):=by
 show(if 500<(Pv p).n then _ else _)=_;rw[if_neg h1,if_neg h2]
theorem Jm{Pv:Nat->PV}:∀(k p:Nat),(Bt Pv np k p).1=0->∀q,p<=q->q<p+k->¬500<(Pv q).n/\(CZ (Pv q).L (q:Int) (np:Int) 16 0 (Pv q).n 0).1=0
 |0,p,_,q,h1,h2=>by omega
 |k+1,p,h,q,h1,h2=>by
  by_cases a:500<(Pv p).n
  ·exfalso
   have:Bt Pv np (k+1) p=(1,(p:Int),0):=by show(if 500<(Pv p).n then _ else _)=_;rw[if_pos a]
   rw[this]at h;exact absurd h (by simp)
  ·by_cases b:(CZ (Pv p).L (p:Int) (np:Int) 16 0 (Pv p).n 0).1≠0
   ·exfalso
    have:Bt Pv np (k+1) p=((CZ (Pv p).L (p:Int) (np:Int) 16 0 (Pv p).n 0).1,(p:Int),(CZ (Pv p).L (p:Int) (np:Int) 16 0 (Pv p).n 0).2):=by show(if 500<(Pv p).n then _ else _)=_;rw[if_neg a,if_pos b]
    rw[this]at h;exact absurd h b
   ·by_cases e:q=p
    ·subst e;exact⟨a,by simpa using b⟩
    ·rw[KH a b]at h
     exact Jm k (p+1) h q (by omega) (by omega)
structure Xy(w u:World):Prop where
 bel:Below w.heap.size w u
 R:Cl u w.heap.size [Vi 0,Vi 0,Vi 0]
 RF:∀i,u.frozen? ⟨w.heap.size,i,none⟩=false
theorem Xy.below{u v:World}(p:Xy w u){B:Nat}(hB:w.heap.size<B)(hb:Below B u v):Xy w v:=
 ⟨p.bel.trans (hb.mono (by omega)),⟨jI p.R.1 hb.size,fun i hi=>(hb.cell (p:=⟨w.heap.size,i,none⟩) hB).trans (p.R.2 i hi)⟩,fun i=>(hb.frozen (p:=⟨w.heap.size,i,none⟩) hB).trans (p.RF i)⟩
theorem JY{u:World}(p:Xy w u):u.cell? ⟨w.heap.size,0,none⟩=some (Vi 0)/\u.cell? ⟨w.heap.size,1,none⟩=some (Vi 0)/\u.cell? ⟨w.heap.size,2,none⟩=some (Vi 0):=⟨p.R.2 0 (by simp),p.R.2 1 (by simp),p.R.2 2 (by simp)⟩
theorem Jy{Pv:Nat->PV}{x:Int×Int×Int}(hn:¬(np<1∨20<np))(h:Bt Pv np np 0=x)(h0:x.1≠0):Bz Pv np=x:=by
 rw[Bz,if_neg hn,h,if_pos h0]
theorem Gb{w':World}{base e size:Nat}{v:Value}{xs:List Value}(h:w.ownsRow base e size v n xs)(hb:Below w.heap.size w w'):w'.ownsRow base e size v n xs:=by
 refine⟨h.1,?_⟩;rcases h.2 with h|⟨g,cap,cur,rfl,h1,h2,h3⟩
 ·exact .inl h
 ·have hg:g<w.heap.size:=(jH.1 h2).1
  exact .inr ⟨g,cap,cur,rfl,h1,(hb.block g hg).trans h2,h3⟩
theorem Hu{base e size:Nat}{v:Value}{xs:List Value}(h:w.ownsRow base e size v n xs)(hn:0<n):∃g c,v=Vs g n c:=by
 rcases h.2 with⟨_,rfl⟩|⟨g,cap,cur,rfl,_⟩
 ·omega
 ·exact⟨_,_,rfl⟩
theorem A9.setU{b:Nat}{f:Nat->Value}(h:A9 w b n f)(o:Nat)(ho:o<n)(v:Value):A9 (w.setCell (Va b o) v) b n (fun i=>if i=o then v else f i):=by
 have:=h.setCells o [v] (by simp;omega);refine A9.congr (f:=fun i=>if o<=i/\i<o+[v].length then[v].getD (i-o) undef else f i) this fun i _=>?_
 by_cases e:i=o
 ·subst e;simp
 ·rw[if_neg (by simp;omega),if_neg e]
theorem Si:(Tryz.prog.info? 2).map (fun i=>(i.zero,i.size,i.bytes))=some (some (Vi 0),1,8):=by kernel_rfl
theorem J2(bp np cap:Nat)(Pv:Nat->PV)(blk:Nat->Nat)(w:World)(ln:np<=1048576)(lb:∀i,i<np->(Pv i).n<=1048576)(h:TP w bp np Pv blk):
 Calls Tryz.prog 26 #[Vs bp np cap] w fun e w'=>e=.returned (.agg #[Vi (Bz Pv np).1,Vi (Bz Pv np).2.1,Vi (Bz Pv np).2.2])/\Below w.heap.size w w':=by
 have H:Hid (TP w bp np Pv blk):=h;have LB:=hxy lb;have lbp:=h.r.lt;clear h lb;obtain⟨res,hres⟩:=Ae (Bz Pv np);rw[hres];have HR:=hxy hres;clear hres;go_enter Tryz.func26,Tryz.ntmps26;go_upto_region 1 with fail;obtain⟨u,hu,hp⟩:∃x,w.alloc (.cells #[Vi 0,Vi 0,Vi 0] 53)=x/\Xy w x:=⟨_,rfl,Ak,Cl.new,fun i=>by simp[go_sem]⟩
 rw[hu];have P0:=hxy hp;clear hu hp;by_cases hn:np<1∨20<np
 ·have HN:=hxy hn
  obtain⟨r0,r1,r2⟩:=JY P0.out;have rf:=P0.out.RF;have rl:=P0.out.R.1;obtain rfl:(1,0,0)=res:=by rw[<-HR.out,Bz,if_pos HN.out]
  by_cases h1:np<1
  ·have e1:decide ((np:Int)<1)=true:=by simp;omega
   clear hn;go_wp2;refine bodyPost_ret (v:=.agg #[Vi 1,Vi 0,Vi 0]) (by simp[results,Tryz.results26,go_sem, *]) rfl ⟨rfl,?_⟩
   (iterate 3 refine Below.setCell ?_ (show w.heap.size<=w.heap.size from jG) _)
   exact P0.out.bel
  ·have e1:decide ((np:Int)<1)=false:=by simp;omega
   have e2:decide ((20:Int)<np)=true:=by simp;omega
   clear hn;go_wp2;refine bodyPost_ret (v:=.agg #[Vi 1,Vi 0,Vi 0]) (by simp[results,Tryz.results26,go_sem, *]) rfl ⟨rfl,?_⟩
   (iterate 3 refine Below.setCell ?_ (show w.heap.size<=w.heap.size from jG) _)
   exact P0.out.bel
 have HN:=hxy hn;have n1:1<=np:=by omega
 have n20:np<=20:=by omega
 have e1:decide ((np:Int)<1)=false:=by simp;omega
 have e2:decide ((20:Int)<np)=false:=by simp;omega
 clear hn;go_wp2_with fail;clear e1 e2;go_loopw [4](fun pv wr=>∃p:Nat,p<=np/\pv=Vi (p:Int)/\Xy w wr/\Bt Pv np (np-p) p=Bt Pv np np 0)(fun pv _=>np-(intOf pv).toNat)
 case atStart=>exact⟨0,Nat.zero_le _,rfl,P0.out,rfl⟩
 case round=>
  obtain⟨p,hpn,rfl,hu,hf⟩:=hrel;have P1:Hid (Xy w wr):=hu;have HF:=hxy hf;clear hu hf;by_cases hlt:p<np
  ·have hlt':(p:Int)<(np:Int):=by omega
   have g0:wr.cell? (Va bp p)=some (.slice (some ⟨blk p,0,none⟩) (Pv p).n (Pv p).c):=(H.out.r.below P1.out.bel lbp).cell hlt;have lnp:=LB.out p hlt;by_cases h5:500<(Pv p).n
   ·have e5:decide ((500:Int)<((Pv p).n:Int))=true:=by simp;omega
    obtain⟨r0,r1,r2⟩:=JY P1.out;have rf:=P1.out.RF;have rl:=P1.out.R.1;have HX:Hid (Bt Pv np np 0=(1,(p:Int),0)):=(by rw[<-HF.out,show np-p=(np-p-1)+1 by omega];show(if 500<(Pv p).n then _ else _)=_;rw[if_pos h5]:Bt Pv np np 0=(1,(p:Int),0))
    obtain rfl:(1,(p:Int),0)=res:=by rw[<-HR.out];exact(Jy HN.out HX.out (by simp)).symm
    go_wp2;refine bodyPost_ret (v:=.agg #[Vi 1,Vi (p:Int),Vi 0]) (by simp[results,Tryz.results26,go_sem, *]) rfl ⟨rfl,?_⟩
    (iterate 3 refine Below.setCell ?_ (show w.heap.size<=w.heap.size from jG) _)
    exact P1.out.bel
   ·have e5:decide ((500:Int)<((Pv p).n:Int))=false:=by simp;omega
    go_wp2_with fail;refine(Sd (blk p) (Pv p).n (Pv p).c (Pv p).L (p:Int) (np:Int) 16 lnp (by omega) (by omega) (Pv p).n 0 (Pv p).n 0 wr (by omega) (by omega) jG (by omega) (by omega) ((H.out.b p hlt).below P1.out.bel (H.out.b p hlt).lt)).mono ?_;rintro e v⟨rfl,hb⟩;obtain⟨c,hc⟩:=Ae (CZ (Pv p).L (p:Int) (np:Int) 16 0 (Pv p).n 0);rw[hc];have HC:=hxy hc;have P2:=hxy (P1.out.below P1.out.R.1 hb);have H5:=hxy h5;clear hc hb P1 g0 h5 e5;obtain⟨r0,r1,r2⟩:=JY P2.out;have rf:=P2.out.RF;have rl:=P2.out.R.1;by_cases z:c.1=0
    ·have ez:(c.1 !=0)=false:=by simp[z]
     have HZ:Hid (¬(CZ (Pv p).L (p:Int) (np:Int) 16 0 (Pv p).n 0).1≠0):=(by rw[HC.out];simp[z]:¬(CZ (Pv p).L (p:Int) (np:Int) 16 0 (Pv p).n 0).1≠0)
     clear z;go_wp2;go_roundw
     case rel=>exact⟨p+1,by omega,by go_num,P2.out,by rw[<-HF.out,show np-p=(np-(p+1))+1 by omega,KH H5.out HZ.out]⟩
     case measure=>simp[intOf];omega
    ·have ez:(c.1 !=0)=true:=by simp[z]
     have HX:Hid (Bt Pv np np 0=(c.1,(p:Int),c.2)):=(by rw[<-HF.out,show np-p=(np-p-1)+1 by omega];show(if 500<(Pv p).n then _ else _)=_;rw[if_neg H5.out,HC.out,if_pos z]:Bt Pv np np 0=(c.1,(p:Int),c.2))
     obtain rfl:(c.1,(p:Int),c.2)=res:=by rw[<-HR.out];exact(Jy HN.out HX.out z).symm
     clear z;go_wp2;refine bodyPost_ret (v:=.agg #[Vi c.1,Vi (p:Int),Vi c.2]) (by simp[results,Tryz.results26,go_sem, *]) rfl ⟨rfl,?_⟩
     (iterate 3 refine Below.setCell ?_ (show w.heap.size<=w.heap.size from jG) _)
     exact P2.out.bel
  ·obtain rfl:p=np:=by omega
   have hlt':¬(p:Int)<(p:Int):=by omega
   have HG:Hid (Bt Pv p p 0=(0,0,0)):=(by rw[<-HF.out,Nat.sub_self];rfl:Bt Pv p p 0=(0,0,0))
   clear HF hlt hpn;go_wp2_with fail;obtain⟨v2,hv2,hb2,ho2⟩:∃x,wr.alloc (.cells #[] 2)=x/\Below wr.heap.size wr x/\x.ownsRow wr.heap.size 2 1 (Vs wr.heap.size 0 0) 0 []:=⟨_,rfl,Ak,World.ownsRow_lit wr #[] 0 jG (by unfold maxLen;omega) rfl⟩
   rw[hv2];have P2:=hxy (P1.out.below P1.out.R.1 hb2);have O2:Hid (v2.ownsRow (w.heap.size+1) 2 1 (Vs wr.heap.size 0 0) 0 []):=ho2.mono (by have:=P1.out.R.1;omega);clear hv2 hb2 ho2 P1;generalize wr.heap.size=nb at *;obtain⟨iV,gV,gV0,gV1,gV2⟩:=info_parts Si;have HIV:Hid (_/\_/\_/\_):=⟨gV,gV0,gV1,gV2⟩
   clear gV gV0 gV1 gV2;go_loopw [8,9](fun v8 qv w3=>∃q:Nat,q<=p/\qv=Vi (q:Int)/\Xy w w3/\w3.ownsRow (w.heap.size+1) 2 1 v8 q (List.replicate q (Vi 0)))(fun _ qv _=>p-(intOf qv).toNat)
   case atStart=>exact⟨0,Nat.zero_le _,rfl,P2.out,O2.out⟩
   case round=>
    obtain⟨q,hq,rfl,hu,ho⟩:=hrel;have P3:=hxy hu;have O3:=hxy ho;clear hu ho P2 O2;by_cases hlt:q<p
    ·have hlt':(q:Int)<(p:Int):=by omega
     go_wp2_with(first|(at_builtin;refine wpList_append_own _ rfl _ _ 55 rfl (w.heap.size+1) 2 iV (Vi 0) 1 8 Tryz.underlying55 HIV.out.1 HIV.out.2.1 HIV.out.2.2.1 HIV.out.2.2.2 rfl (by decide) u8 q (List.replicate q (Vi 0)) rfl (Gb O3.out Ak) ⟨wr.heap.size,0,none⟩ 1 1 [Vi 0] rfl rfl ?c1 ?c2 ?c3 ?c4 ?c5 ?_)|go_in)
     case c1=>
      intro j x hj;match j,hj with
      |0,hj=>simp at hj;subst hj;simp[go_sem,Addr.add]
      |j+1,hj=>simp at hj
     case c2=>intro x hx;simp at hx;subst hx;rfl
     case c3=>unfold maxLen;omega
     case c4=>omega
     case c5=>have:=P3.out.R.1;simp;omega
     intro v' w1 hown hgrow _;have hb:Below (w.heap.size+1) wr w1:=((Below.refl (w.heap.size+1) wr).alloc (by have:=P3.out.R.1;omega) _).grown hgrow (by have:=P3.out.R.1;simp;omega) (fun k hk=>(O3.out.lt k hk).1);have P4:Hid (Xy w w1):=P3.out.below (Nat.lt_succ_self _) hb;have O4:Hid (w1.ownsRow (w.heap.size+1) 2 1 v' (q+1) (List.replicate (q+1) (Vi 0))):=(by rw[List.replicate_succ'];exact hown:w1.ownsRow (w.heap.size+1) 2 1 v' (q+1) (List.replicate (q+1) (Vi 0)))
     clear hown hgrow hb P3 O3;go_wp2;go_roundw
     case rel=>exact⟨q+1,by omega,by go_num,P4.out,O4.out⟩
     case measure=>simp[intOf];omega
    ·obtain rfl:q=p:=by omega
     have hlt':¬(q:Int)<(q:Int):=by omega
     obtain⟨g,cz,hv⟩:=Hu O3.out (by omega);subst hv;have hgl:=(O3.out.lt g rfl)
     have A3:Hid (A9 wr g q (zF (zs Pv q 0))):=⟨hgl.2,fun i=>O3.out.frozenAt i,fun i hi=>by rw[O3.out.cellAt i (by omega)];simp[hi,zF,zs]⟩
     have gg:w.heap.size<g:=hgl.1;clear hgl O3 hlt hq HIV;go_wp2_with fail;generalize hwx:wr=w3 at *;clear hwx;go_loopw [10](fun pv w4=>∃k:Nat,k<=q/\pv=Vi ((q:Int)-1-(k:Int))/\Xy w w4/\A9 w4 g q (zF (zs Pv q k)))(fun pv _=>((intOf pv)+1).toNat)
     case atStart=>exact⟨0,Nat.zero_le _,by simp,P3.out,A3.out⟩
     case round=>
      obtain⟨k,hk,rfl,hu,ha⟩:=hrel;have P5:=hxy hu;have A5:=hxy ha;clear hu ha P3 A3;by_cases hlt:k<q
      ·obtain⟨x,hx⟩:∃x:Nat,x=q-1-k:=⟨_,rfl⟩
       have hxi:(q:Int)-1-(k:Int)=(x:Int):=by omega
       rw[hxi];have hxq:x<q:=by omega
       have hxq':(x:Int)<(q:Int):=by omega
       have hx0:(x:Int)>=0:=by omega
       have HXX:=hxy hx;have HXI:=hxy hxi;clear hx hxi;have g0:wr.cell? (Va bp x)=some (.slice (some ⟨blk x,0,none⟩) (Pv x).n (Pv x).c):=(H.out.r.below P5.out.bel lbp).cell hxq;obtain⟨hf1,hf2⟩:=Jm q 0 (by rw[HG.out]) x (Nat.zero_le _) (by omega);go_wp2_with fail;refine(UE (blk x) (Pv x).n (Pv x).c (Pv x).L g q cz (zs Pv q k) wr (LB.out x hxq) ((H.out.b x hxq).below P5.out.bel (H.out.b x hxq).lt) A5.out.at (fun i=>(Uo Pv q k i).1) (fun i=>(Uo Pv q k i).2) (fun j hj h4=>Jv (aX (Pv x).L (x:Int) (q:Int) 16 _ 0 (Pv x).n 0 jG hf2 j (Nat.zero_le _) hj) h4)).mono ?_;rintro e w5⟨rfl,hw⟩;rw[hw];clear hw hf1 hf2;obtain⟨z,hz⟩:=Ae (Ic (Bf (Pv x).L (zs Pv q k) (Pv x).n));rw[hz];have HZZ:=hxy hz;clear hz;have a0:wr.cell? (Va g x)=some (Vi (zs Pv q k x)):=A5.out.cell hxq;have af:=A5.out.free;have al:=A5.out.lt;have P6:Hid (Xy w (wr.setCell (Va g x) (Vi z))):=P5.out.below (Nat.lt_succ_self _) ((Below.refl (w.heap.size+1) wr).setCell (p:=Va g x) gg _);have A6:Hid (A9 (wr.setCell (Va g x) (Vi z)) g q (zF (zs Pv q (k+1)))):=(A5.out.setU x hxq _).congr (fun i _=>by
        show(if i=x then _ else _)=Vi (if i=q-1-k then Ic (Bf (Pv (q-1-k)).L (zs Pv q k) (Pv (q-1-k)).n)else zs Pv q k i);rw[<-HXX.out,HZZ.out];by_cases e:i=x
        ·rw[if_pos e,if_pos e]
        ·rw[if_neg e,if_neg e];rfl)
       clear P5 A5;go_wp2;go_roundw
       case rel=>exact⟨k+1,by omega,by have:=HXI.out;rw[show(q:Int)-1-((k+1:Nat):Int)=(x:Int)-1 by omega],P6.out,A6.out⟩
       case measure=>simp[intOf]
      ·obtain rfl:k=q:=by omega
       have hneg:¬((k:Int)-1-(k:Int))>=0:=by omega
       have a0:wr.cell? (Va g 0)=some (Vi (zs Pv k k 0)):=A5.out.cell (by omega);have al:=A5.out.lt;have zb:=Uo Pv k k 0;have hk0:(0:Int)<(k:Int):=by omega
       obtain⟨z,hz⟩:=Ae (zs Pv k k 0);have HZZ:=hxy hz;rw[hz]at a0 zb;clear hz;obtain⟨r0,r1,r2⟩:=JY P5.out;have rf:=P5.out.RF;have rl:=P5.out.R.1;by_cases h6:2000<z+1
       ·have e6:decide (2000<z+1)=true:=by simp;omega
        obtain rfl:(6,0,0)=res:=by rw[<-HR.out,Bz,if_neg HN.out,HG.out,if_neg (by simp),HZZ.out,if_pos h6]
        go_wp2;refine bodyPost_ret (v:=.agg #[Vi 6,Vi 0,Vi 0]) (by simp[results,Tryz.results26,go_sem, *]) rfl ⟨rfl,?_⟩
        (iterate 3 refine Below.setCell ?_ (show w.heap.size<=w.heap.size from jG) _)
        exact P5.out.bel
       ·have e6:decide (2000<z+1)=false:=by simp;omega
        obtain rfl:(0,0,0)=res:=by rw[<-HR.out,Bz,if_neg HN.out,HG.out,if_neg (by simp),HZZ.out,if_neg h6]
        go_wp2;refine bodyPost_ret (v:=.agg #[Vi 0,Vi 0,Vi 0]) (by simp[results,Tryz.results26,go_sem, *]) rfl ⟨rfl,?_⟩
        (iterate 3 refine Below.setCell ?_ (show w.heap.size<=w.heap.size from jG) _)
        exact P5.out.bel
end Go.Proofs.YtfpeecaaleijcaaGreatDoor
