import Derived.Test.YtiphbmhoifggiaaGreatDoorUnitBlock
set_option maxHeartbeats 4000000
set_option maxRecDepth 20000
namespace Go.Proofs.YtiphbmhoifggiaaGreatDoor
open Go.RowKit
def zF(Z:Nat->Int)(i:Nat):Value:=.int .i64 (Z i)
def wI(s:SV)(Z:Nat->Int):Int:=if s.k=1 then 1 else if s.k=4 then Z s.proc.toNat else 2
def szTo(L:Nat->SV)(Z:Nat->Int):Nat->Int
 |0=>0
 |k+1=>szTo L Z k+wI (L k) Z
theorem wI_pos{s:SV}{Z:Nat->Int}(h:∀i,0<=Z i):0<=wI s Z:=by
 unfold wI;split
 ·omega
 ·split
  ·exact h _
  ·omega
theorem wI_le{s:SV}{Z:Nat->Int}(h:∀i,Z i<=2001):wI s Z<=2001:=by
 unfold wI;split
 ·omega
 ·split
  ·exact h _
  ·omega
theorem szTo_mono{L:Nat->SV}{Z:Nat->Int}(h:∀i,0<=Z i){k n:Nat}(hk:k<=n):szTo L Z k<=szTo L Z n:=by
 induction n with
 |zero=>rw[show k=0 by omega];exact Int.le_refl _
 |succ n ih=>
  by_cases e:k=n+1
  ·rw[e];exact Int.le_refl _
  ·have:=ih (by omega)
   have:=wI_pos (s:=L n) h;show szTo L Z k<=szTo L Z n+wI (L n) Z;omega
theorem szTo_pos{L:Nat->SV}{Z:Nat->Int}(h:∀i,0<=Z i)(k:Nat):0<=szTo L Z k:=szTo_mono h (Nat.zero_le k)
def capI(x:Int):Int:=if 2000<x then 2001 else x
theorem l3Size_any(b n cap:Nat)(L:Nat->SV)(bz nz cz:Nat)(Z:Nat->Int)(w:World)(ln:n<=1048576)(hA:Arr w b (n*11) (stF L))(hZ:At w bz 0 nz (zF Z))(z0:∀i,0<=Z i)(z1:∀i,Z i<=2001)(hp:∀j,j<n->(L j).k=4->0<=(L j).proc/\(L j).proc<nz):
 Calls Tryz.prog 42 #[.slice (some ⟨b,0,none⟩) n cap,.slice (some ⟨bz,0,none⟩) nz cz] w fun e w'=>e=.returned (.int .i64 (capI (szTo L Z n)))/\w'=w:=by
 have HA:Hid (Arr w b (n*11) (stF L)):=hA;have HZ:Hid (At w bz 0 nz (zF Z)):=hZ;have HP:Hid (∀j,j<n->(L j).k=4->0<=(L j).proc/\(L j).proc<nz):=hp;have Z0:Hid (∀i,0<=Z i):=z0;have Z1:Hid (∀i,Z i<=2001):=z1;have lb:=hA.lt;have lbz:=hZ.lt;clear hA hZ hp z0 z1;obtain⟨res,hres⟩:∃x,capI (szTo L Z n)=x:=⟨_,rfl⟩
 rw[hres];have HR:Hid (capI (szTo L Z n)=res):=hres;clear hres;go_enter Tryz.func42,Tryz.ntmps42;go_wp2;go_loopw [5,6](fun nv iv wr=>∃j:Nat,j<=n/\iv=.int .i64 (j:Int)/\nv=.int .i64 (szTo L Z j)/\szTo L Z j<=4001/\wr=w)(fun _ iv _=>n-(intOf iv).toNat)
 case atStart=>exact⟨0,Nat.zero_le _,rfl,rfl,by simp[szTo],rfl⟩
 case round=>
  obtain⟨j,hj,rfl,rfl,h4,rfl⟩:=hrel;have p0:=szTo_pos (L:=L) Z0.out j;have HS:Hid (szTo L Z (j+1)=szTo L Z j+wI (L j) Z):=rfl;have HMN:Hid (szTo L Z j<=szTo L Z n):=szTo_mono Z0.out hj;obtain⟨x,hx⟩:∃x,szTo L Z j=x:=⟨_,rfl⟩
  have HX:Hid (szTo L Z j=x):=hx;rw[hx]at h4 p0⊢;clear hx;by_cases hlt:j<n
  ·have hlt':(j:Int)<(n:Int):=by omega
   obtain⟨s0,_,_,_,_,_,_,_,_,_,s10⟩:=st_at HA.out j hlt;by_cases hx2:x<=2000
   ·have e0:decide (x<=2000)=true:=by simp[hx2]
    by_cases k1:(L j).k=1
    ·have e1:((L j).k==1)=true:=by simp[k1]
     have HW:Hid (wI (L j) Z=1):=(by simp[wI,k1]:wI (L j) Z=1)
     clear k1;go_wp2;go_roundw
     case rel=>exact⟨j+1,by omega,by go_num,by rw[HS.out,HX.out,HW.out],by rw[HS.out,HX.out,HW.out];omega,by first|rfl|trivial⟩
     case measure=>simp[intOf];omega
    ·have e1:((L j).k==1)=false:=by simp[k1]
     by_cases k4:(L j).k=4
     ·have e4:((L j).k==4)=true:=by simp[k4]
      obtain⟨q0,q1⟩:=HP.out j hlt k4;obtain⟨q,hq⟩:∃y:Nat,(L j).proc=(y:Int):=⟨(L j).proc.toNat,by omega⟩
      have HW:Hid (wI (L j) Z=Z q):=(by simp[wI,k4,hq]:wI (L j) Z=Z q)
      rw[hq]at s10;have hqn:q<nz:=by omega
      have hqn':(q:Int)<(nz:Int):=by omega
      have g0:wr.cell? ⟨bz,q,none⟩=some (.int .i64 (Z q)):=by have:=HZ.out.cell hqn;rwa [Nat.zero_add]at this
      have y0:=Z0.out q;have y1:=Z1.out q;obtain⟨y,hy⟩:∃y,Z q=y:=⟨_,rfl⟩
      have HY:Hid (Z q=y):=hy;rw[hy]at g0 y0 y1;clear k1 k4 hy q0 q1 hq;go_wp2;go_roundw
      case rel=>exact⟨j+1,by omega,by go_num,by rw[HS.out,HX.out,HW.out,HY.out],by rw[HS.out,HX.out,HW.out,HY.out];omega,by first|rfl|trivial⟩
      case measure=>simp[intOf];omega
     ·have e4:((L j).k==4)=false:=by simp[k4]
      have HW:Hid (wI (L j) Z=2):=(by simp[wI,k1,k4]:wI (L j) Z=2)
      clear k1 k4;go_wp2;go_roundw
      case rel=>exact⟨j+1,by omega,by go_num,by rw[HS.out,HX.out,HW.out],by rw[HS.out,HX.out,HW.out];omega,by first|rfl|trivial⟩
      case measure=>simp[intOf];omega
   ·have e0:decide (x<=2000)=false:=by simp;omega
    have e5:decide (2000<x)=true:=by simp;omega
    go_wp2;go_ret;exact⟨ret_int (by rw[<-HR.out,capI,if_pos (by have:=HMN.out;rw[HX.out]at this;omega)]),rfl⟩
  ·obtain rfl:j=n:=by omega
   have hlt':¬(j:Int)<(j:Int):=by omega
   by_cases hx2:x<=2000
   ·have e5:decide (2000<x)=false:=by simp;omega
    go_wp2;go_ret;exact⟨ret_int (by rw[<-HR.out,capI,HX.out,if_neg (by omega)]),rfl⟩
   ·have e5:decide (2000<x)=true:=by simp;omega
    go_wp2;go_ret;exact⟨ret_int (by rw[<-HR.out,capI,HX.out,if_pos (by omega)]),rfl⟩
structure PV where
 n:Nat
 L:Nat->SV
def pF(Pv:Nat->PV)(blk:Nat->Nat)(i:Nat):Value:=.slice (some ⟨blk i,0,none⟩) (Pv i).n (Pv i).n
structure PCp(w:World)(bp np:Nat)(Pv:Nat->PV)(blk:Nat->Nat):Prop where
 r:Arr w bp np (pF Pv blk)
 b:∀i,i<np->Arr w (blk i) ((Pv i).n*11) (stF (Pv i).L)
theorem PCp.below{w w':World}{bp np:Nat}{Pv:Nat->PV}{blk:Nat->Nat}(h:PCp w bp np Pv blk)(hb:Below w.heap.size w w'):PCp w' bp np Pv blk:=
 ⟨h.r.below hb h.r.lt,fun i hi=>(h.b i hi).below hb (h.b i hi).lt⟩
def findBad(Pv:Nat->PV)(np:Nat):Nat->Nat->Int×Int×Int
 |0,_=>(0,0,0)
 |k+1,p=>if 500<(Pv p).n then(1,(p:Int),0)else if(chk (Pv p).L (p:Int) (np:Int) 16 0 (Pv p).n 0).1≠0 then((chk (Pv p).L (p:Int) (np:Int) 16 0 (Pv p).n 0).1,(p:Int),(chk (Pv p).L (p:Int) (np:Int) 16 0 (Pv p).n 0).2)else findBad Pv np k (p+1)
def zs(Pv:Nat->PV)(np:Nat):Nat->Nat->Int
 |0=>fun _=>0
 |k+1=>fun i=>if i=np-1-k then capI (szTo (Pv (np-1-k)).L (zs Pv np k) (Pv (np-1-k)).n)else zs Pv np k i
def unitR(Pv:Nat->PV)(np:Nat):Int×Int×Int:=
 if np<1∨20<np then(1,0,0)else if(findBad Pv np np 0).1≠0 then findBad Pv np np 0 else if 2000<zs Pv np np 0+1 then(6,0,0)else(0,0,0)
theorem capI_in{x:Int}(h:0<=x):0<=capI x/\capI x<=2001:=by unfold capI;split<;>omega
theorem zs_in(Pv:Nat->PV)(np k:Nat):∀i,0<=zs Pv np k i/\zs Pv np k i<=2001:=by
 induction k with
 |zero=>intro i;exact⟨Int.le_refl _,by show(0:Int)<=2001;decide⟩
 |succ k ih=>
  intro i;show 0<=(if i=np-1-k then capI (szTo (Pv (np-1-k)).L (zs Pv np k) (Pv (np-1-k)).n)else zs Pv np k i)/\(if i=np-1-k then capI (szTo (Pv (np-1-k)).L (zs Pv np k) (Pv (np-1-k)).n)else zs Pv np k i)<=2001;split
  ·exact capI_in (szTo_pos (fun i=>(ih i).1) _)
  ·exact ih i
theorem chk_all(L:Nat->SV)(me procs deep:Int):∀(m i te:Nat)(depth:Int),te-i<=m->(chk L me procs deep i te depth).1=0->∀j,i<=j->j<te->stOK (L j) procs=true:=by
 intro m;induction m using Nat.strongRecOn with
 |ind m ih=>
 intro i te depth hm h0 j hij hjt;have hlt:i<te:=by omega
 by_cases h1:stOK (L i) procs=false
 ·rw[chk_bad hlt h1]at h0;exact absurd h0 (by simp)
 by_cases h2:i+1+(L i).thn.toNat+(L i).els.toNat<=te
 rotate_left
 ·rw[chk_shape hlt h1 h2]at h0;exact absurd h0 (by simp)
 by_cases h3:((L i).k=2∨(L i).k=3)/\deep<=depth
 ·rw[chk_deep hlt h1 h2 h3]at h0;exact absurd h0 (by simp)
 by_cases h4:(L i).k=4/\(L i).proc<=me
 ·rw[chk_rec hlt h1 h2 h3 h4]at h0;exact absurd h0 (by simp)
 rw[chk_then hlt h1 h2 h3 h4]at h0;by_cases z1:(chk L me procs deep (i+1) (i+1+(L i).thn.toNat) (depth+1)).1≠0
 ·rw[if_pos z1]at h0;exact absurd h0 z1
 rw[if_neg z1]at h0;by_cases z2:(chk L me procs deep (i+1+(L i).thn.toNat) (i+1+(L i).thn.toNat+(L i).els.toNat) (depth+1)).1≠0
 ·rw[if_pos z2]at h0;exact absurd h0 z2
 rw[if_neg z2]at h0;by_cases e:j=i
 ·rw[e];simpa using h1
 by_cases e1:j<i+1+(L i).thn.toNat
 ·exact ih (te-i-1) (by omega) (i+1) _ (depth+1) (by omega) (by simpa using z1) j (by omega) e1
 by_cases e2:j<i+1+(L i).thn.toNat+(L i).els.toNat
 ·exact ih (te-i-1) (by omega) (i+1+(L i).thn.toNat) _ (depth+1) (by omega) (by simpa using z2) j (by omega) e2
 ·exact ih (te-i-1) (by omega) _ te depth (by omega) h0 j (by omega) hjt
theorem st_call{s:SV}{procs:Int}(h:stOK s procs=true)(k:s.k=4):0<=s.proc/\s.proc<procs:=by
 unfold stOK at h;rw[if_neg (by omega),if_neg (by omega),if_neg (by omega),if_pos k]at h;have:=of_decide_eq_true h;omega
theorem find_step{Pv:Nat->PV}{np k p:Nat}(h1:¬500<(Pv p).n)(h2:¬(chk (Pv p).L (p:Int) (np:Int) 16 0 (Pv p).n 0).1≠0):findBad Pv np (k+1) p=findBad Pv np k (p+1):=by
 show(if 500<(Pv p).n then _ else _)=_;rw[if_neg h1,if_neg h2]
theorem find_all{Pv:Nat->PV}{np:Nat}:∀(k p:Nat),(findBad Pv np k p).1=0->∀q,p<=q->q<p+k->¬500<(Pv q).n/\(chk (Pv q).L (q:Int) (np:Int) 16 0 (Pv q).n 0).1=0
 |0,p,_,q,h1,h2=>by omega
 |k+1,p,h,q,h1,h2=>by
  by_cases a:500<(Pv p).n
  ·exfalso
   have:findBad Pv np (k+1) p=(1,(p:Int),0):=by show(if 500<(Pv p).n then _ else _)=_;rw[if_pos a]
   rw[this]at h;exact absurd h (by simp)
  ·by_cases b:(chk (Pv p).L (p:Int) (np:Int) 16 0 (Pv p).n 0).1≠0
   ·exfalso
    have:findBad Pv np (k+1) p=((chk (Pv p).L (p:Int) (np:Int) 16 0 (Pv p).n 0).1,(p:Int),(chk (Pv p).L (p:Int) (np:Int) 16 0 (Pv p).n 0).2):=by show(if 500<(Pv p).n then _ else _)=_;rw[if_neg a,if_pos b]
    rw[this]at h;exact absurd h b
   ·by_cases e:q=p
    ·subst e;exact⟨a,by simpa using b⟩
    ·rw[find_step a b]at h
     exact find_all k (p+1) h q (by omega) (by omega)
end Go.Proofs.YtiphbmhoifggiaaGreatDoor
