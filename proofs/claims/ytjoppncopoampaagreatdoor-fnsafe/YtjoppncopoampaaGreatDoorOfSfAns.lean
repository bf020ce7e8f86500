import Derived.Test.YtjoppncopoampaaGreatDoorOfCoreReg
import Derived.Test.YtjoppncopoampaaGreatDoorOfFtFit
import Derived.Test.YtjoppncopoampaaGreatDoorOfAbsWalks
import Derived.Test.YtjoppncopoampaaGreatDoorOfSpecDo
import Derived.Deep.RegionHeld3
import Derived.Deep.Cut
import Derived.Deep.DeepCutAuto
import Derived.Test.YtjoppncopoampaaGreatDoorOfFlMath
import Derived.Test.YtjoppncopoampaaGreatDoorOfFuWk
import Derived.Test.YtjoppncopoampaaGreatDoorOfFtLr
import Derived.Test.YtjoppncopoampaaGreatDoorOfRunMath
import Derived.Test.YtjoppncopoampaaGreatDoorOfSfDraw
import Derived.Test.YtjoppncopoampaaGreatDoorOfFrMach
import Derived.Test.YtjoppncopoampaaGreatDoorOfEvRun
set_option maxHeartbeats 8000000
set_option maxRecDepth 20000
namespace Go.Proofs.YtjoppncopoampaaGreatDoor
open Go.RowKit
def Ku(v:VV)(x:Int)(Hp:Nat->Bv):Bool:=
 if v.k=0 then decide (v.m= -1∨x<=v.m)else decide (v.lo<=IntKind.i64.wrap (x-(Hp v.h.toNat).base)/\IntKind.i64.wrap (x-(Hp v.h.toNat).base)<=v.hi)
theorem Sl(a:Int)(s j:Bool)(c:Int)(wr:Bool)(k:Option Addr)(b d:Nat)(w:World)(_hl:b<=1048576):
 Calls Tryz.prog 30 #[.agg #[Vi a,.bool s,.bool j],.agg #[.int .u64 c,.bool wr,.slice k b d]] w fun e l=>e=.returned (.bool (decide (a=(b:Int))&&(j==wr)))/\Below w.heap.size w l:=by
 by_cases h:(b:Int)=a
 ·go_enter Tryz.func30,Tryz.ntmps30
  go_wp2;all_goals(go_ret;refine⟨AY ?_,(Ai).alloc AX _⟩;cases j<;>cases wr<;>simp[h])
 ·go_enter Tryz.func30,Tryz.ntmps30
  go_wp2;all_goals(go_ret;refine⟨AY ?_,(Ai).alloc AX _⟩;simp[Ne.symm h])
theorem UX{n:Int}(a:0<=n)(b:n<=2199023255552):IntKind.u64.wrap n=n:=by rw[IntKind.wrap_u64];omega
theorem kD{x base h hi:Int}(a: -1099511627776<=h)(b:h<=hi)(c:hi<=1099511627776):
 decide (IntKind.u64.wrap (IntKind.u64.wrap (x-base)-IntKind.u64.wrap h)<=hi-h)=decide (h<=IntKind.i64.wrap (x-base)/\IntKind.i64.wrap (x-base)<=hi):=by
 simp only[IntKind.wrap_u64,IntKind.wrap_i64,decide_eq_decide];omega
theorem Tc(k:Int)(s:Bool)(m h l d x:Int)(B p n:Nat)(c:Nat->Bv)(w:World)(o:Cy ⟨k,s,m,h,l,d⟩ n=true)
 (a:∀i,i<n->0<=(c i).base/\(c i).base<=18446744073709551615)(b:Ak w B (n*3) (CO c)):
 Calls Tryz.prog 64 #[.agg #[Vi k,.bool s,Vi m,Vi h,Vi l,Vi d],.int .u64 x,Vs B n p] w fun e O=>e=.returned (.bool (Ku ⟨k,s,m,h,l,d⟩ x c))/\Below w.heap.size w O:=by
 have Q:=b.lt;by_cases A:k=0
 ·subst A
  simp only[Cy,if_true,decide_eq_true_eq]at o;obtain⟨K,L,_⟩:=o;clear b a;by_cases C:m= -1
  ·subst C
   go_enter Tryz.func64,Tryz.ntmps64;go_wp2;go_ret;exact⟨AY (by simp[Ku]),Ai⟩
  ·have M:0<=m:=AB
   go_enter Tryz.func64,Tryz.ntmps64;go_wp2;go_ret;exact⟨AY (by simp[Ku,C]),Ai⟩
 ·simp only[Cy,A,if_false,decide_eq_true_eq]at o
  obtain⟨rfl,rfl,rfl,F,I,u,r,q⟩:=o;obtain⟨j,rfl⟩:∃j:Nat,h=(j:Int):=⟨h.toNat,AB⟩
  have J:j<n:=AB;obtain⟨S,U⟩:=a j J;have E:=((b.cell (i:=j*3+0) AB).trans (congrArg some (Iz _ j)))
  simp only[Nat.add_zero]at E;have z:=kD (x:=x) (base:=(c j).base) u r q;have N:(0:Int)<=d-l:=AB;have y:d-l<=2199023255552:=AB;have R:=UX N y;have D:=hxy z;clear b a z;go_enter Tryz.func64,Tryz.ntmps64;go_wp2;go_quiet(fail);go_wp2;go_ret;refine⟨AY ?_,?_⟩
  ·simp only[Ku,Int.toNat_natCast]
   rw[<-D.out,if_neg AB]
  ·exact below_drewN Ai _
theorem Oz(o Q b:Nat)(S:Nat->HS)(B A:Nat)(n:Nat->Bv)(w:World)(Z:b<=1048576)(j:∀i,i<b->(n i).len<=1048576)(C:Ak w o (b*3) (Ur S))(l:Ak w B (b*3) (CO n))(s:∀i,i<b->(S i).size=((n i).len:Int)/\(S i).w=(n i).wr):
 Calls Tryz.prog 29 #[Vs o b Q,Vs B b A,.func (.func 30) #[] #[]] w fun e U=>e=.returned (.bool true)/\Below w.heap.size w U:=by
 have d:=C.lt;have u:=l.lt;have x:=hxy C;have y:=hxy l;have O:=hxy j;have q:=hxy s;clear C l j s;have J:∀h w,(callFunc 30 h).run Tryz.prog w=.ok (.enter 30 h) w:=by intro _ _;go_simp
 go_enter Tryz.func29,Tryz.ntmps29;go_wp2;go_loopw [17](fun i wr=>∃k:Nat,k<=b/\i=Vi k/\Bw w wr)(fun i _=>b-(intOf i).toNat)
 case atStart=>exact⟨0,Nat.zero_le _,rfl,Below.refl _ _⟩
 case round=>
  obtain⟨k,Y,rfl,a⟩:=hrel;by_cases m:k<b
  ·have L:=(a.cell (p:=Va o (k*3)) d).trans (x.cell (i:=k*3+0) AB |>.trans (congrArg some (Fb S k 0 AB)))
   have M:=(a.cell (p:=Va o (k*3+1)) d).trans (x.cell (i:=k*3+1) AB |>.trans (congrArg some (Fb S k 1 AB)));have N:=(a.cell (p:=Va o (k*3+2)) d).trans (x.cell (i:=k*3+2) AB |>.trans (congrArg some (Fb S k 2 AB)));have D:=(a.cell (p:=Va B (k*3)) u).trans ((y.cell (i:=k*3+0) AB).trans (congrArg some (Iz _ k)));have E:=(a.cell (p:=Va B (k*3+1)) u).trans ((y.cell (i:=k*3+1) AB).trans (congrArg some (JE _ k)));have F:=(a.cell (p:=Va B (k*3+2)) u).trans ((y.cell (i:=k*3+2) AB).trans (congrArg some (GD _ k)));simp only[wm]at L M N D E F;have R:B<wr.heap.size:=Ey u a.size;have I:o<wr.heap.size:=Ey d a.size;have c:=hxy a;clear a;go_wp2_with fail;refine(Sl _ _ _ _ _ _ _ _ _ (O k m)).mono ?_;rintro e X⟨rfl,r⟩;have z:Hid (Bw w X):=((c.alloc c.size _).alloc (by have:=c.size;simp;omega) _).trans (r.mono (by have:=c.size;simp;omega));clear r L M N D E F;have K:(decide ((S k).size=((n k).len:Int))&&((S k).w==(n k).wr))=true:=by
    rw[(q.out k m).1,(q.out k m).2];simp
   rw[K];clear K;go_wp2;go_roundw
   case rel=>exact⟨k+1,AB,by go_num,z⟩
   case measure=>simp[intOf];omega
  ·obtain rfl:k=b:=AB
   go_wp2;go_ret;exact⟨rfl,a⟩
theorem RO(r cV:Nat)(V:Nat->VV)(q Y:Nat)(R:Nat->Int)(z c hz hc:Bool)(B x n:Nat)(I:Nat->Bv)(pc st:Int)(aO:Option Addr)(nO cO:Nat)(w:World)(hg:∀i,i<8->Cy (V i) n=true)
 (o:∀i,i<n->0<=(I i).base/\(I i).base<=18446744073709551615)(Z:Ak w r (8*6) (vF V))(h2:Ak w q 8 (EU .u64 R))(K:Ak w B (n*3) (CO I))(L:∀i,i<8->Ku (V i) (R i) I=true):
 Calls Tryz.prog 31 #[Vs r 8 cV,.agg #[Vs q 8 Y,.bool z,.bool c,.bool hz,.bool hc,Vs B n x,Vi pc,Vi st,.slice aO nO cO]] w fun e a=>e=.returned (.bool true)/\Below w.heap.size w a:=by
 have E:=Z.lt;have l2:=h2.lt;have C:=hxy Z;have H2:=hxy h2;have HC:=hxy K;have HG:=hxy hg;have HZ:=hxy o;have X:=hxy L;clear Z h2 K hg o L;go_enter Tryz.func31,Tryz.ntmps31;go_wp2;go_loopw [9](fun i wr=>∃k:Nat,k<=8/\i=Vi k/\Bw w wr/\w.heap.size<wr.heap.size/\wr.cell? ⟨w.heap.size,0,none⟩=some (Vs q 8 Y)/\wr.cell? ⟨w.heap.size,5,none⟩=some (Vs B n x))(fun i _=>8-(intOf i).toNat)
 case atStart=>exact⟨0,Nat.zero_le _,rfl,Ai,AX,by simp[go_sem],by simp[go_sem]⟩
 case round=>
  obtain⟨k,hk,rfl,d,j,x0,x5⟩:=hrel;have F:=hxy d;by_cases M:k<8
  ·have g0:=(d.cell (p:=Va r (k*6)) E).trans (C.cell (i:=k*6+0) AB |>.trans (congrArg some (Bz V k 0 AB)))
   have g1:=(d.cell (p:=Va r (k*6+1)) E).trans (C.cell (i:=k*6+1) AB |>.trans (congrArg some (Bz V k 1 AB)));have g2:=(d.cell (p:=Va r (k*6+2)) E).trans (C.cell (i:=k*6+2) AB |>.trans (congrArg some (Bz V k 2 AB)));have g3:=(d.cell (p:=Va r (k*6+3)) E).trans (C.cell (i:=k*6+3) AB |>.trans (congrArg some (Bz V k 3 AB)));have g4:=(d.cell (p:=Va r (k*6+4)) E).trans (C.cell (i:=k*6+4) AB |>.trans (congrArg some (Bz V k 4 AB)));have g5:=(d.cell (p:=Va r (k*6+5)) E).trans (C.cell (i:=k*6+5) AB |>.trans (congrArg some (Bz V k 5 AB)));have r0:=(d.cell (p:=Va q k) l2).trans (H2.cell (i:=k) AB);simp only[vC,EU]at g0 g1 g2 g3 g4 g5 r0;have O:q<wr.heap.size:=Ey l2 d.size;clear d;go_upto_region 4 with fail;obtain⟨l,N,b,y⟩:∃v,wr.alloc (.cells #[Vi (V k).k,.bool (V k).s,Vi (V k).m,Vi (V k).h,Vi (V k).lo,Vi (V k).hi] 68)=v/\Bw wr v/\Cl v wr.heap.size [Vi (V k).k,.bool (V k).s,Vi (V k).m,Vi (V k).h,Vi (V k).lo,Vi (V k).hi]:=⟨_,rfl,Ai,Cl.new⟩
   rw[N];have u:=hxy (F.trans (b.mono F.size));have p0:∀a,Bw l a->a.cell? ⟨w.heap.size,0,none⟩=some (Vs q 8 Y):=fun a h=>(h.cell (p:=⟨w.heap.size,0,none⟩) (Ey j b.size)).trans ((b.cell (p:=⟨w.heap.size,0,none⟩) j).trans x0)
   have p5:∀a,Bw l a->a.cell? ⟨w.heap.size,5,none⟩=some (Vs B n x):=fun a h=>(h.cell (p:=⟨w.heap.size,5,none⟩) (Ey j b.size)).trans ((b.cell (p:=⟨w.heap.size,5,none⟩) j).trans x5)
   have pr:Cb l q k (.int .u64 (R k)):=fun a h=>(h.cell (p:=Va q k) (Ey O b.size)).trans ((b.cell (p:=Va q k) O).trans r0)
   have v0:∀a,Bw l a->a.cell? ⟨wr.heap.size,0,none⟩=some (Vi (V k).k):=fun a h=>(y.below h).2 0 AX
   have v1:∀a,Bw l a->a.cell? ⟨wr.heap.size,1,none⟩=some (.bool (V k).s):=fun a h=>(y.below h).2 1 AX
   have v2:∀a,Bw l a->a.cell? ⟨wr.heap.size,2,none⟩=some (Vi (V k).m):=fun a h=>(y.below h).2 2 AX
   have v3:∀a,Bw l a->a.cell? ⟨wr.heap.size,3,none⟩=some (Vi (V k).h):=fun a h=>(y.below h).2 3 AX
   have v4:∀a,Bw l a->a.cell? ⟨wr.heap.size,4,none⟩=some (Vi (V k).lo):=fun a h=>(y.below h).2 4 AX
   have v5:∀a,Bw l a->a.cell? ⟨wr.heap.size,5,none⟩=some (Vi (V k).hi):=fun a h=>(y.below h).2 5 AX
   have y0:=(b.cell (p:=⟨w.heap.size,0,none⟩) j).trans x0;have y5:=(b.cell (p:=⟨w.heap.size,5,none⟩) j).trans x5;have A:w.heap.size<l.heap.size:=Ey j b.size;clear N y b x0 x5 g0 g1 g2 g3 g4 g5 r0;refine wp_region_held_drew (S:=fun a=>Bw l a) AV BJ.drew (fun _=>?_);refine EX [0,1,2,3,4,5,6,7] ?_;refine AO 8 rfl (fun KK hK=>?_);go_simp;have U:=hxy u.drew;refine(Tc _ _ _ _ _ _ _ _ _ _ I _ (HG k M) HZ (HC.below U HC.lt)).mono ?_;rintro e w2⟨rfl,J⟩;have D:Bw l w2:=(BJ.drew).trans J;have Q:=hxy (u.trans (D.mono u.size));have z0:=(D.cell (p:=⟨w.heap.size,0,none⟩) A).trans y0;have z5:=(D.cell (p:=⟨w.heap.size,5,none⟩) A).trans y5;have aa:w.heap.size<w2.heap.size:=Ey A D.size;clear J;go_wp2_with fail;refine hK.out _ _ D (fun _=>?_);clear hK KK;try go_frame
   refine AU 9 ?_;refine wpAnyH_done AV ?_ _;clear p0 p5 pr v0 v1 v2 v3 v4 v5 y0 y5 D;rw[X.out k M];go_wp2;go_roundw
   case rel=>exact⟨k+1,AB,by go_num,Q,aa,z0,z5⟩
   case measure=>simp[intOf];omega
  ·obtain rfl:k=8:=AB
   go_wp2;go_ret;exact⟨rfl,d⟩
theorem sK{a:Nat->Bv}{v:VV}{x:Int}{n:Nat}(c:GV v n)(h:CG (fun k=>(a k).base) v x):Ku v x a=true:=by
 unfold Ku;rcases h with⟨k,h⟩|⟨k,d,e,j,b⟩
 ·rw[if_pos k];exact decide_eq_true h
 ·rw[if_neg AB]
  rcases c with q|⟨_,_,_,_,_,l,_,m⟩
  ·omega
  ·dsimp only at b
   subst b;rw[IntKind.wrap_i64];exact decide_eq_true AB
theorem UL{m:Md}{o:Nat}{S:Nat->HS}{V:Nat->VV}(h:OH m o S V)(u:o<=4)(c:∀i,i<m.hs.length->0<=(m.hs.getD i hd0).base)(b:∀i,i<o->1<=(S i).size/\(S i).size<=4096):Et m.rs.length false false false false m.hs.length (hL m.hs) 0 0 0 (kL [])=true:=by
 have k:=h.nh;have e:Ea m.hs.length (hL m.hs)=true:=by
  unfold Ea;rw[Bool.and_eq_true];refine⟨decide_eq_true AB,LH fun i a=>?_⟩;have l:=(h.h.heap i a).1;have n:=b i AB;have q:=h.h.tp i a;have r:=c i a;unfold heapAt;rw[Bool.and_eq_true];refine⟨?_,LH fun j d=>?_⟩
  ·unfold qO
   show(decide (1<=((m.hs.getD i hd0).ds.length:Int))&&decide (((m.hs.getD i hd0).ds.length:Int)<=4096)&&decide ((m.hs.getD i hd0).base<=18446744073709551615-((m.hs.getD i hd0).ds.length:Int)))=true;rw[decide_eq_true AB,decide_eq_true AB,decide_eq_true AB];rfl
  ·have s:=h.h.sp j i d a
   unfold Il;show(!(decide ((m.hs.getD j hd0).base<(m.hs.getD i hd0).base+((m.hs.getD i hd0).ds.length:Int))&&decide ((m.hs.getD i hd0).base<(m.hs.getD j hd0).base+((m.hs.getD j hd0).ds.length:Int))))=true;rw[decide_eq_false (p:=(m.hs.getD i hd0).base<_) AB,Bool.and_false];rfl
 unfold Et;rw[e,h.nr];decide
theorem SB(bH cH nH:Nat)(S:Nat->HS)(bR cR:Nat)(V:Nat->VV)(ra:Option Addr)(rc:Nat)(ha:Option Addr)(hcp:Nat)(rs:List Int)(hs:List HD)(B:Nat)(w:World)(n1:1<=nH)(n4:nH<=4)(hok:Db nH S 8 V=true)(hgv:∀i,i<8->GV (V i) nH)(hsz:∀i,i<nH->1<=(S i).size/\(S i).size<=4096)(h1:Ck w bH nH S bR 8 V)(hf:OH ⟨.slice ra rs.length rc,false,false,false,false,.slice ha hs.length hcp,0,0,.slice none 0 0,rs,hs,[]⟩ nH S V)(hm:ML B ⟨.slice ra rs.length rc,false,false,false,false,.slice ha hs.length hcp,0,0,.slice none 0 0,rs,hs,[]⟩ w):
 Calls Tryz.prog 8 #[.agg #[.slice (some ⟨bH,0,none⟩) nH cH,.slice (some ⟨bR,0,none⟩) 8 cR],.agg #[.slice ra rs.length rc,.bool false,.bool false,.bool false,.bool false,.slice ha hs.length hcp,.int .i64 0,.int .i64 0,.slice none 0 0]] w fun e w'=>e=.returned (.bool true)/\Below w.heap.size w w':=by
 obtain⟨gR,gH,gO,hg⟩:=ML.g (rs:=rs) (hs:=hs) (os:=[]) hm h1.h;have hnh:hs.length=nH:=hf.nh;have hnr:rs.length=8:=hf.nr;have hrg:=hm.range;have hsm:=hm.small (by show rs.length<=8;omega) (by show hs.length<=8;omega) (by show 0<=2;omega);have hbb:∀i,i<hs.length->0<=(hs.getD i hd0).base:=fun i hi=>(hrg.base i hi).1
 have hmk:=UL hf n4 hbb hsz;have eR:ra=some ⟨gR,0,none⟩:=hg.eR.some (by omega);have eH:ha=some ⟨gH,0,none⟩:=hg.eH.some (by omega);subst eR eH hnh;dsimp only at hmk;have HS:Hid (Small rs.length hs.length (hL hs) 0):=hsm;have HR:Hid (Lf (rL rs) hs.length (hL hs)):=hrg;have HMK:Hid _:=hmk;have HF:Hid (OH ⟨.slice (some ⟨gR,0,none⟩) rs.length rc,false,false,false,false,.slice (some ⟨gH,0,none⟩) hs.length hcp,0,0,.slice none 0 0,rs,hs,[]⟩ hs.length S V):=hf;have HOK:Hid (Db hs.length S 8 V=true):=hok;have HGV:Hid (∀i,i<8->GV (V i) hs.length):=hgv;have C0:Hid (Ck w bH hs.length S bR 8 V):=h1;have M0:Hid (Hf w (some ⟨gR,0,none⟩) rc gR rs.length (rL rs) (some ⟨gH,0,none⟩) hcp gH hs.length (hL hs) (aL hs) (cL hs) none 0 gO 0 (kL []) (vL [])):=hg;clear hg hsm hrg hmk hf hok hgv h1 hm hbb hsz;have HNR:Hid (rs.length=8):=hnr;clear hnr;go_enter Tryz.func8,Tryz.ntmps8;go_wp2_with fail;obtain⟨u0,hv,hb,p0,q0⟩:∃v,(w.alloc (.cells #[.slice (some ⟨bH,0,none⟩) hs.length cH,.slice (some ⟨bR,0,none⟩) 8 cR] 26)).alloc (.cells #[.slice (some ⟨gR,0,none⟩) rs.length rc,.bool false,.bool false,.bool false,.bool false,.slice (some ⟨gH,0,none⟩) hs.length hcp,.int .i64 0,.int .i64 0,.slice none 0 0] 32)=v/\Below w.heap.size w v/\Cl v w.heap.size [.slice (some ⟨bH,0,none⟩) hs.length cH,.slice (some ⟨bR,0,none⟩) 8 cR]/\Cl v (w.heap.size+1) [.slice (some ⟨gR,0,none⟩) rs.length rc,.bool false,.bool false,.bool false,.bool false,.slice (some ⟨gH,0,none⟩) hs.length hcp,.int .i64 0,.int .i64 0,.slice none 0 0]:=by
  refine⟨_,rfl,((Below.refl _ _).alloc (Nat.le_refl _) _).alloc (by simp) _,(Cl.new).below ((Below.refl _ _).alloc (Nat.le_refl _) _),?_⟩;have h:=Cl.new (w:=w.alloc (.cells #[.slice (some ⟨bH,0,none⟩) hs.length cH,.slice (some ⟨bR,0,none⟩) 8 cR] 26)) (vs:=#[.slice (some ⟨gR,0,none⟩) rs.length rc,.bool false,.bool false,.bool false,.bool false,.slice (some ⟨gH,0,none⟩) hs.length hcp,.int .i64 0,.int .i64 0,.slice none 0 0]) (t:=32);simp only[World.size_alloc]at h;exact h
 rw[hv];have BU:Hid (Below w.heap.size w u0):=hb;have P:Hid (Cl u0 w.heap.size [.slice (some ⟨bH,0,none⟩) hs.length cH,.slice (some ⟨bR,0,none⟩) 8 cR]):=p0;have Q:Hid (Cl u0 (w.heap.size+1) [.slice (some ⟨gR,0,none⟩) rs.length rc,.bool false,.bool false,.bool false,.bool false,.slice (some ⟨gH,0,none⟩) hs.length hcp,.int .i64 0,.int .i64 0,.slice none 0 0]):=q0;have CU:Hid (Ck u0 bH hs.length S bR 8 V):=C0.out.below hb;have MU:Hid (Hf u0 (some ⟨gR,0,none⟩) rc gR rs.length (rL rs) (some ⟨gH,0,none⟩) hcp gH hs.length (hL hs) (aL hs) (cL hs) none 0 gO 0 (kL []) (vL [])):=M0.out.below hb (Nat.le_refl _);clear hv hb p0 q0 C0 M0;refine(Mw _ _ _ S _ _ _ V _ (by omega) (by omega) CU.out).mono ?_;rintro e u1⟨rfl,hb⟩;rw[HOK.out];have B':Hid (Below w.heap.size w u1):=BU.out.trans (hb.mono BU.out.size);have P':Hid (Cl u1 w.heap.size [.slice (some ⟨bH,0,none⟩) hs.length cH,.slice (some ⟨bR,0,none⟩) 8 cR]):=P.out.below hb;have Q':Hid (Cl u1 (w.heap.size+1) [.slice (some ⟨gR,0,none⟩) rs.length rc,.bool false,.bool false,.bool false,.bool false,.slice (some ⟨gH,0,none⟩) hs.length hcp,.int .i64 0,.int .i64 0,.slice none 0 0]):=Q.out.below hb;have C':Hid (Ck u1 bH hs.length S bR 8 V):=CU.out.below hb;have M':Hid (Hf u1 (some ⟨gR,0,none⟩) rc gR rs.length (rL rs) (some ⟨gH,0,none⟩) hcp gH hs.length (hL hs) (aL hs) (cL hs) none 0 gO 0 (kL []) (vL [])):=MU.out.below hb (Nat.le_refl _);clear hb BU P Q CU MU;have BU:=B';have P:=P';have Q:=Q';have CU:=C';have MU:=M';clear B' P' Q' C' M';have zP:w.heap.size<u1.heap.size:=P.out.1;have zQ:w.heap.size+1<u1.heap.size:=Q.out.1;have c0:=P.out.2 0 (by simp);have c1:=P.out.2 1 (by simp);have d0:=Q.out.2 0 (by simp);have d1:=Q.out.2 1 (by simp);have d2:=Q.out.2 2 (by simp);have d3:=Q.out.2 3 (by simp);have d4:=Q.out.2 4 (by simp);have d5:=Q.out.2 5 (by simp);have d6:=Q.out.2 6 (by simp);have d7:=Q.out.2 7 (by simp);have d8:=Q.out.2 8 (by simp);simp only[List.getD_eq_getElem?_getD,List.getElem?_cons_zero,List.getElem?_cons_succ,Option.getD_some]at c0 c1 d0 d1 d2 d3 d4 d5 d6 d7 d8;go_wp2_with fail;refine(La _ _ gR _ (rL rs) _ _ _ _ _ _ gH _ (hL hs) (aL hs) (cL hs) _ _ _ _ gO _ (kL []) (vL []) _ HS.out (fun i hi=>(HR.out.base i hi).1) MU.out).mono ?_;rintro e u2⟨rfl,hb⟩;rw[HMK.out];clear zP zQ c0 c1 d0 d1 d2 d3 d4 d5 d6 d7 d8;have B':Hid (Below w.heap.size w u2):=BU.out.trans (hb.mono BU.out.size);have P':Hid (Cl u2 w.heap.size [.slice (some ⟨bH,0,none⟩) hs.length cH,.slice (some ⟨bR,0,none⟩) 8 cR]):=P.out.below hb;have Q':Hid (Cl u2 (w.heap.size+1) [.slice (some ⟨gR,0,none⟩) rs.length rc,.bool false,.bool false,.bool false,.bool false,.slice (some ⟨gH,0,none⟩) hs.length hcp,.int .i64 0,.int .i64 0,.slice none 0 0]):=Q.out.below hb;have C':Hid (Ck u2 bH hs.length S bR 8 V):=CU.out.below hb;have M':Hid (Hf u2 (some ⟨gR,0,none⟩) rc gR rs.length (rL rs) (some ⟨gH,0,none⟩) hcp gH hs.length (hL hs) (aL hs) (cL hs) none 0 gO 0 (kL []) (vL [])):=MU.out.below hb (Nat.le_refl _);clear hb BU P Q CU MU
 have BU:=B';have P:=P';have Q:=Q';have CU:=C';have MU:=M';clear B' P' Q' C' M';have zP:w.heap.size<u2.heap.size:=P.out.1;have zQ:w.heap.size+1<u2.heap.size:=Q.out.1;have c0:=P.out.2 0 (by simp);have c1:=P.out.2 1 (by simp);have d0:=Q.out.2 0 (by simp);have d1:=Q.out.2 1 (by simp);have d2:=Q.out.2 2 (by simp);have d3:=Q.out.2 3 (by simp);have d4:=Q.out.2 4 (by simp);have d5:=Q.out.2 5 (by simp);have d6:=Q.out.2 6 (by simp);have d7:=Q.out.2 7 (by simp);have d8:=Q.out.2 8 (by simp);simp only[List.getD_eq_getElem?_getD,List.getElem?_cons_zero,List.getElem?_cons_succ,Option.getD_some]at c0 c1 d0 d1 d2 d3 d4 d5 d6 d7 d8;go_wp2_with fail;refine(Oz bH cH hs.length S gH hcp (fun i=>(hL hs i).put (aL hs i) (cL hs i)) _ (by omega) (fun i hi=>?k1) CU.out.h MU.out.heaps (fun i hi=>?k2)).mono ?_
 case k1=>have k:=(HF.out.h.heap i hi).1;have:=HS.out.data i hi;exact this
 case k2=>exact⟨(HF.out.h.heap i hi).1.symm,(HF.out.h.heap i hi).2.symm⟩
 rintro e u3⟨rfl,hb⟩;clear zP zQ c0 c1 d0 d1 d2 d3 d4 d5 d6 d7 d8;have B':Hid (Below w.heap.size w u3):=BU.out.trans (hb.mono BU.out.size);have P':Hid (Cl u3 w.heap.size [.slice (some ⟨bH,0,none⟩) hs.length cH,.slice (some ⟨bR,0,none⟩) 8 cR]):=P.out.below hb;have Q':Hid (Cl u3 (w.heap.size+1) [.slice (some ⟨gR,0,none⟩) rs.length rc,.bool false,.bool false,.bool false,.bool false,.slice (some ⟨gH,0,none⟩) hs.length hcp,.int .i64 0,.int .i64 0,.slice none 0 0]):=Q.out.below hb;have C':Hid (Ck u3 bH hs.length S bR 8 V):=CU.out.below hb;have M':Hid (Hf u3 (some ⟨gR,0,none⟩) rc gR rs.length (rL rs) (some ⟨gH,0,none⟩) hcp gH hs.length (hL hs) (aL hs) (cL hs) none 0 gO 0 (kL []) (vL [])):=MU.out.below hb (Nat.le_refl _);clear hb BU P Q CU MU;have BU:=B';have P:=P';have Q:=Q';have CU:=C';have MU:=M';clear B' P' Q' C' M';have zP:w.heap.size<u3.heap.size:=P.out.1;have zQ:w.heap.size+1<u3.heap.size:=Q.out.1;have c0:=P.out.2 0 (by simp);have c1:=P.out.2 1 (by simp);have d0:=Q.out.2 0 (by simp);have d1:=Q.out.2 1 (by simp);have d2:=Q.out.2 2 (by simp);have d3:=Q.out.2 3 (by simp);have d4:=Q.out.2 4 (by simp);have d5:=Q.out.2 5 (by simp);have d6:=Q.out.2 6 (by simp);have d7:=Q.out.2 7 (by simp);have d8:=Q.out.2 8 (by simp);simp only[List.getD_eq_getElem?_getD,List.getElem?_cons_zero,List.getElem?_cons_succ,Option.getD_some]at c0 c1 d0 d1 d2 d3 d4 d5 d6 d7 d8;rw[HNR.out]at d0;go_wp2_with fail;refine(RO bR cR V gR rc (rL rs) _ _ _ _ gH hcp hs.length (fun i=>(hL hs i).put (aL hs i) (cL hs i)) _ _ _ _ _ _ (fun i hi=>gv.2 (HGV.out i hi)) (fun i hi=>HR.out.base i hi) CU.out.r (by have k:=MU.out.regs;rw[HNR.out]at k;exact k) MU.out.heaps (fun i hi=>sK (HGV.out i hi) (HF.out.rg i hi))).mono ?_;rintro e u4⟨rfl,hb⟩;have B4:Hid (Below w.heap.size w u4):=BU.out.trans (hb.mono BU.out.size);clear hb zP zQ c0 c1 d0 d1 d2 d3 d4 d5 d6 d7 d8;go_wp2;go_ret;exact⟨rfl,B4.out⟩
abbrev WI(G:SG)(F:FS)(M:MV):Prop:=Ls G.nH G.S F.V F.z F.c M
theorem pX{v:VV}{n:Int}(h:GV v n):v.k=0∨v.k=1:=by
 rcases h with h|h
 ·exact Or.inl h.1
 ·exact Or.inr h.1
theorem Ng{a b:Int}{f:Bool}(h:(a=0∨f=true)∨(b=0∨f=true)):MF a b=0∨f=true:=by
 unfold MF;by_cases e:a=0∨b=0
 ·rw[if_pos e];exact Or.inl rfl
 ·rcases h with(h|h)|(h|h)
  ·exact absurd (Or.inl h) e
  ·exact Or.inr h
  ·exact absurd (Or.inr h) e
  ·exact Or.inr h
section
variable{G:SG}{L:Nat->SV}{fu:Int}{F B C:FS}{M:MV}{r r' r1 r2:RV}
theorem Ls.join(hF:Ri G F)(d:Ri G B)(h:WI G F M∨WI G B M):WI G (jF F B) M:=by
 obtain⟨_,_,c,_,_⟩:=Co.1 hF;obtain⟨_,_,b,_,_⟩:=Co.1 d;rcases h with p|p
 ·exact⟨p.nh,p.sz,fun i a=>MK (pX (c i a)) (pX (b i a)) (Or.inl (p.rg i a)),Ng (Or.inl p.hz),Ng (Or.inl p.hc)⟩
 ·exact⟨p.nh,p.sz,fun i a=>MK (pX (c i a)) (pX (b i a)) (Or.inr (p.rg i a)),Ng (Or.inr p.hz),Ng (Or.inr p.hc)⟩
structure Gd(G:SG)(F:FS)(r:RV):Prop where
 ok:r.M.Ok
 st:r.M.st=0
 asv:r.out=false->WI G F r.M
theorem Gd.to(h:Gd G F r)(k:∀M,WI G F M->WI G B M):Gd G B r:=⟨h.ok,h.st,fun q=>k _ (h.asv q)⟩
theorem Gd.halt(n:¬r.go)(h:Gd G F r):Gd G B r:=⟨h.ok,h.st,fun q=>absurd ⟨q,h.st⟩ n⟩
theorem Gd.ins{s:SV}(e:GU G s F=0)(h:Gd G F r)(g:r.go):Gd G (Km G s F) (Jd fu s r):=by
 unfold Jd;by_cases y:r.used=fu
 ·rw[if_pos y];exact⟨h.ok,h.st,fun q=>by cases q⟩
 rw[if_neg y];have p:=h.asv g.1;unfold GU at e;obtain⟨I,u,x⟩:=Om e;obtain⟨_,C,_,A,K,B,L,J,_⟩:=Gx u x;have k:=(uW h.ok s.op.toNat s.d.toNat s.a.toNat s.b.toNat s.h.toNat s.imm AB AB).1;have c:((s.d.toNat:Nat):Int)=s.d:=Int.toNat_of_nonneg C;have j:((s.a.toNat:Nat):Int)=s.a:=Int.toNat_of_nonneg A;have l:((s.b.toNat:Nat):Int)=s.b:=Int.toNat_of_nonneg B;have m:((s.h.toNat:Nat):Int)=s.h:=Int.toNat_of_nonneg J;obtain⟨z,D,E,n⟩:=WT (di:=s.d.toNat) (ia:=s.a.toNat) (ib:=s.b.toNat) (q:=s.h.toNat) I (by rw[c,j,l,m];exact u) x AB AB h.ok p (by rw[c,j,l,m];exact e) 0;rw[c,j,l,m]at n;have o:nk s r.M=z:=by unfold nk uq;rw[D]
 refine⟨k,?_,fun _=>?_⟩
 ·show(nk s r.M).st=0
  rw[o,E];exact h.st
 ·show Ls _ _ _ _ _ (nk s r.M)
  rw[o];exact n
theorem lV{c:Int}(a:He F c=0)(p:WI G F M):VD c M=true:=by
 unfold He at a;unfold VD;by_cases h:3<=c
 ·rw[if_pos h]at a
  rw[if_neg AB];rcases p.hc with q|q
  ·rw[if_pos q]at a;cases a
  ·exact q
 ·rw[if_neg h]at a
  rw[if_pos AB];rcases p.hz with q|q
  ·rw[if_pos q]at a;cases a
  ·exact q
theorem Gd.look{c:Int}{b:Bool}(j:He F c=0)(h:Gd G F r)(g:r.go)(l:Di fu c r=(r1,b)):Gd G F r1:=by
 have e:(Di fu c r).1=r1:=by rw[l]
 rw[<-e];unfold Di;by_cases d:r.used=fu
 ·rw[if_pos d];exact⟨h.ok,h.st,fun q=>by cases q⟩
 rw[if_neg d];have p:=h.asv g.1;have a:Ig c r.M=r.M.see 2 (if TV c r.M then 0 else 1):=by unfold Ig;rw[if_pos (lV j p)]
 refine⟨(kK h.ok c).1,?_,fun _=>?_⟩
 ·show(Ig c r.M).st=0
  rw[a];exact h.st
 ·show Ls _ _ _ _ _ (Ig c r.M)
  rw[a];exact p.see _ _
theorem Ym{body:FS->Int->CR}(z:VW G body)(cond b:Int):∀n F q C j,JD G F->Cq body cond b n F q=.ok C j->JD G C/\He C cond=0/\(∃D d E,body C d=.ok D E/\JD G D/\jF C D=C)/\∀M,WI G F M->WI G C M:=by
 intro n;induction n with
 |zero=>intro F q C j _ e;simp[Cq]at e
 |succ n B=>
  intro F q C j hF e;unfold Cq at e;by_cases l:1000<=q
  ·rw[if_pos l]at e;cases e
  rw[if_neg l]at e;by_cases m:He F cond≠0
  ·rw[if_pos m]at e;cases e
  rw[if_neg m]at e;cases h3:body F (q+1)with
  |inl x=>obtain⟨k,I⟩:=x;rw[h3]at e;cases e
  |inr x=>
   obtain⟨D,d⟩:=x;rw[h3]at e;have c:=(z F (q+1) D d hF h3).1;dsimp only at e;by_cases h:Qh (jF F D) F=true
   ·rw[if_pos h]at e
    obtain⟨k,o⟩:=CR.okI e;subst k o;exact⟨hF,AB,⟨D,q+1,d,h3,c,(hF.join c).eq hF (IZ.1 h)⟩,fun _ p=>p⟩
   ·rw[if_neg h]at e
    obtain⟨r,s,u,y⟩:=B _ _ _ _ (hF.join c) e;exact⟨r,s,u,fun M p=>y M (Ls.join hF.1 c.1 (Or.inl p))⟩
theorem jL:∀(m i J:Nat)(c:Int),J-i<=m->(DU L 0 0 321 i J c).1=0->∀F q B q',JD G F->ET G (seg L i J) (i:Int) F q=.ok B q'->∀r o,Ev L fu i J r o->Gd G F r->Gd G B o:=by
 intro m;induction m with
 |zero=>
  intro i J c hm _ F q B q' _ e r o I u;rw[J7 AB,Fx]at e;obtain⟨d,E⟩:=CR.okI e;subst d E;rw[I.inv.stop AB];exact u
 |succ m ih=>
  intro i J c hm hc F q B q' hF e;by_cases h:i<J
  rotate_left
  ·intro r o I u
   rw[J7 h,Fx]at e;obtain⟨d,E⟩:=CR.okI e;subst d E;rw[I.inv.stop (fun n=>h n.1)];exact u
  obtain⟨N,hs,c1,c2,c3⟩:=FX hc h;obtain⟨p1,p2⟩:=Mk N;rw[WC G L h N hs]at e;cases hst:Iw G L i F q with
  |inl x=>obtain⟨O,Q⟩:=x;rw[hst]at e;cases e
  |inr x=>
  obtain⟨C,q1⟩:=x;rw[hst]at e;dsimp only at e;have A:JD G C->∀r o,Ev L fu (FV L i) J r o->Gd G C r->Gd G B o:=fun S=>ih (FV L i) J c (by unfold FV;omega) c3 C q1 B q' S e
  unfold Iw at hst;rcases WM N with k|k|k
  ·rw[if_pos k]at hst
   by_cases U:GU G (L i) F≠0
   ·rw[if_pos U]at hst;cases hst
   rw[if_neg U]at hst;obtain⟨d,E⟩:=CR.okI hst;subst d E;have z:GU G (L i) F=0:=AB;intro r o I u;by_cases g:r.go
   ·exact A (hF.tr z) _ _ (I.inv.ins h g k) (u.ins z g)
   ·rw[I.inv.stop (fun n=>g n.2)];exact u.halt g
  ·rw[if_neg AB]at hst
   unfold cmpL at hst;rw[if_neg AB]at hst;by_cases U:He F (L i).cond≠0
   ·rw[if_pos U]at hst;cases hst
   rw[if_neg U]at hst;have z:He F (L i).cond=0:=AB;rw[show(i:Int)+1=((i+1:Nat):Int)by omega]at hst;cases hx:ET G (seg L (i+1) (i+1+(L i).thn.toNat)) ((i+1:Nat):Int) F q with
   |inl x=>obtain⟨O,Q⟩:=x;rw[hx]at hst;cases hst
   |inr x=>
   obtain⟨X,Z⟩:=x;rw[hx]at hst;dsimp only at hst;rw[show((i+1:Nat):Int)+(L i).thn=((i+1+(L i).thn.toNat:Nat):Int)by omega]at hst;cases hy:ET G (seg L (i+1+(L i).thn.toNat) (FV L i)) ((i+1+(L i).thn.toNat:Nat):Int) F Z with
   |inl x=>obtain⟨O,Q⟩:=x;rw[hy]at hst;cases hst
   |inr x=>
   obtain⟨Y,q3⟩:=x;rw[hy]at hst;dsimp only at hst;obtain⟨d,E⟩:=CR.okI hst;subst d E;have gX:=(Jv G _ _ _ BQ F q X Z hF hx).1;have gY:=(Jv G _ _ _ BQ F Z Y q3 hF hy).1;have ix:=ih (i+1) (i+1+(L i).thn.toNat) (c+1) AB c1 F q X Z hF hx;have iy:=ih (i+1+(L i).thn.toNat) (FV L i) (c+1) (by unfold FV;omega) c2 F Z Y q3 hF hy;intro r o I u;by_cases g:r.go
   ·cases hl:Di fu (L i).cond r with
    |mk r1 b=>
    have g1:=u.look z g hl;cases b with
    |true=>
     obtain⟨r2,O,Q⟩:=I.inv.yes h g k hl;exact A (gX.join gY) _ _ Q ((ix _ _ O g1).to (fun M p=>Ls.join gX.1 gY.1 (Or.inl p)))
    |false=>
     obtain⟨r2,O,Q⟩:=I.inv.no h g k hl;exact A (gX.join gY) _ _ Q ((iy _ _ O g1).to (fun M p=>Ls.join gX.1 gY.1 (Or.inr p)))
   ·rw[I.inv.stop (fun n=>g n.2)];exact u.halt g
  ·rw[if_neg AB]at hst
   unfold cmpL at hst;rw[if_pos k,show(i:Int)+1=((i+1:Nat):Int)by omega]at hst;obtain⟨S,z,⟨D,qa,qb,hD,gD,eD⟩,aa⟩:=Ym (body:=fun B q=>ET G (seg L (i+1) (i+1+(L i).thn.toNat)) ((i+1:Nat):Int) B q) (Jv G _ _ _ BQ) _ _ _ _ _ _ _ hF hst;have ix:=ih (i+1) (i+1+(L i).thn.toNat) (c+1) AB c1 C qa D qb S hD;have R:∀M,WI G D M->WI G C M:=fun M p=>by have:=Ls.join S.1 gD.1 (Or.inr p);rw[eD]at this;exact this
   intro r o I u;have H:=I (fun j s r o=>Ev L fu j s r o/\(j=i->s=J->Gd G C r->Gd G B o)) ⟨?_,?_,?_,?_,?_,?_⟩
   ·exact H.2 rfl rfl (u.to aa)
   ·intro j s r n
    exact⟨.stop n,fun d E u=>by subst d E;exact u.halt (fun g=>n ⟨h,g⟩)⟩
   ·intro j s r o a b K x
    exact⟨.ins a b K x.1,fun d _ _=>by subst d;omega⟩
   ·intro j s r r1 r2 o a b K l x y
    exact⟨.yes a b K l x.1 y.1,fun d _ _=>by subst d;omega⟩
   ·intro j s r r1 r2 o a b K l x y
    exact⟨.no a b K l x.1 y.1,fun d _ _=>by subst d;omega⟩
   ·intro j s r r1 r2 o a b K l x y
    exact⟨.more a b K l x.1 y.1,fun d E u=>by subst d E;exact y.2 rfl rfl ((ix _ _ x.1 (u.look z b l)).to R)⟩
   ·intro j s r r1 o a b K l x
    exact⟨.done a b K l x.1,fun d E u=>by subst d E;exact A S _ _ x.1 (u.look z b l)⟩
theorem ZW:∀(m i l:Nat)(a:Int)(r:RV),(fu-r.used).toNat<m->r.used<=fu->(DU L 0 0 321 i l a).1=0->∃c,Ev L fu i l r c/\r.used<=c.used/\c.used<=fu:=by
 intro m;induction m with
 |zero=>intro i l a r h;omega
 |succ m p=>
  intro i l a r Q C J;by_cases K:i<l/\r.go
  rotate_left
  ·exact⟨r,.stop K,Int.le_refl _,C⟩
  obtain⟨h,g⟩:=K;obtain⟨E,R,I,N,B⟩:=FX J h;have D:∀(j s:Nat)(d:RV),d.out=true->Ev L fu j s d d:=fun j s d O=>.stop (fun n=>by have:=n.2.1;rw[O]at this;cases this)
  rcases WM E with k|k|k
  ·by_cases e:r.used=fu
   ·have o:Jd fu (L i) r={r with out:=true}:=by unfold Jd;rw[if_pos e]
    refine⟨{r with out:=true},.ins h g k (by rw[o];exact D _ _ {r with out:=true} rfl),Int.le_refl _,C⟩
   ·have o:Jd fu (L i) r={M:=nk (L i) r.M,used:=r.used+1,out:=r.out}:=by unfold Jd;rw[if_neg e]
    obtain⟨c,q,A,u⟩:=p (FV L i) l a (Jd fu (L i) r) (by rw[o];show(fu-(r.used+1)).toNat<m;omega) (by rw[o];show r.used+1<=fu;omega) B;rw[o]at A;exact⟨c,.ins h g k q,by have:r.used+1<=c.used:=A;omega,u⟩
  all_goals
   by_cases e:r.used=fu
  ·have o:Di fu (L i).cond r=({r with out:=true},false):=by unfold Di;rw[if_pos e]
   exact⟨_,.no h g k o (D _ _ {r with out:=true} rfl) (D _ _ {r with out:=true} rfl),Int.le_refl _,C⟩
  ·cases hl:Di fu (L i).cond r with
   |mk d b=>
   have u1:d.used=r.used+1:=by unfold Di at hl;rw[if_neg e]at hl;rw[<-(Prod.mk.inj hl).1]
   cases b with
   |true=>
    obtain⟨z,q,A,u⟩:=p (i+1) (i+1+(L i).thn.toNat) (a+1) d AB AB I;obtain⟨c,x,F,y⟩:=p (FV L i) l a z AB u B;exact⟨c,.yes h g k hl q x,AB,y⟩
   |false=>
    obtain⟨z,q,A,u⟩:=p (i+1+(L i).thn.toNat) (FV L i) (a+1) d AB AB N;obtain⟨c,x,F,y⟩:=p (FV L i) l a z AB u B;exact⟨c,.no h g k hl q x,AB,y⟩
  ·have o:Di fu (L i).cond r=({r with out:=true},false):=by unfold Di;rw[if_pos e]
   exact⟨_,.done h g k o (D _ _ {r with out:=true} rfl),Int.le_refl _,C⟩
  ·cases hl:Di fu (L i).cond r with
   |mk d b=>
   have u1:d.used=r.used+1:=by unfold Di at hl;rw[if_neg e]at hl;rw[<-(Prod.mk.inj hl).1]
   cases b with
   |true=>
    obtain⟨z,q,A,u⟩:=p (i+1) (i+1+(L i).thn.toNat) (a+1) d AB AB I;obtain⟨c,x,F,y⟩:=p i l a z AB u J;exact⟨c,.more h g k hl q x,AB,y⟩
   |false=>
    obtain⟨c,x,F,y⟩:=p (FV L i) l a d AB AB B;exact⟨c,.done h g k hl x,AB,y⟩
theorem Z9{n:Nat}{h:Int}(r:Hq L n)(hF:JD G F)(l:ET G (seg L 0 n) 0 F 0=.ok B h)(D:M.Ok)(A:M.pc=0)(C:M.st=0)(b:WI G F M)(k:Nat):(Dw (Bb L n) k M).st≠2/\((Dw (Bb L n) k M).st=1->WI G B (Dw (Bb L n) k M)):=by
 obtain⟨a,z,u1,u2⟩:=ZW (L:=L) (fu:=(k:Int)) (k+1) 0 n 0 ⟨M,0,false⟩ (by show((k:Int)-0).toNat<k+1;omega) (by show(0:Int)<=k;omega) r.2.1;have u:=jL (G:=G) n 0 n 0 AB r.2.1 F 0 B h hF l _ _ z ⟨D,C,fun _=>b⟩;obtain⟨K,E,I⟩:=jC r A z;cases ho:a.out with
 |true=>
  have:=I ho;rw[Int.toNat_natCast]at this;rw[this];exact⟨Ad,fun q=>by cases q⟩
 |false=>
  obtain⟨x,s⟩:=E ho;have e:((FM a).at x).st=1:=by
   show(FM a).st=1;unfold FM;rw[RV.goB_yes ⟨ho,u.st⟩];rfl
  have p:=u.asv ho;have j:WI G B ((FM a).at x):=⟨p.nh,p.sz,p.rg,p.hz,p.hc⟩
  have c:(Dw (Bb L n) k M).st≠0->Dw (Bb L n) k M=(FM a).at x:=fun o=>by
   by_cases J:k<=(2*a.used+1).toNat
   ·obtain⟨d,m⟩:∃d,(2*a.used+1).toNat=k+d:=⟨(2*a.used+1).toNat-k,AB⟩
    rw[m,Gh,show Dw (Bb L n) d _=_ from EJ _ _ _ o]at s;exact s
   ·obtain⟨d,m⟩:∃d,k=(2*a.used+1).toNat+d:=⟨k-(2*a.used+1).toNat,AB⟩
    rw[m,Gh,s];exact EJ _ _ _ (by rw[e];decide)
  by_cases y:(Dw (Bb L n) k M).st=0
  ·rw[y];exact⟨Ad,fun q=>by cases q⟩
  ·rw[c y,e];exact⟨Ad,fun _=>j⟩
end
def Lh(M M':MV):Prop:=M'.nH=M.nH/\∀i,(M'.Hp i).base=(M.Hp i).base/\(M'.Hp i).len=(M.Hp i).len/\(M'.Hp i).wr=(M.Hp i).wr/\((M.Hp i).wr=false->(M'.Hp i).dat=(M.Hp i).dat)
theorem Lh.refl(M:MV):Lh M M:=⟨rfl,fun _=>⟨rfl,rfl,rfl,fun _=>rfl⟩⟩
theorem Lh.trans{A B C:MV}(h:Lh A B)(k:Lh B C):Lh A C:=⟨k.1.trans h.1,fun i=>by
 obtain⟨b,c,a,d⟩:=h.2 i;obtain⟨e,j,l,m⟩:=k.2 i;exact⟨e.trans b,j.trans c,l.trans a,fun q=>(m (a.trans q)).trans (d q)⟩⟩
theorem Lh.poke{M:MV}{h:Nat}(a:(M.Hp h).wr=true)(j:Nat)(u:Int):Lh M (M.poke h j u):=⟨rfl,fun i=>by
 unfold MV.poke;by_cases e:i=h
 ·subst e;simp[a]
 ·simp[e]⟩
theorem Lh.pokeN{M:MV}{h:Nat}(a:(M.Hp h).wr=true)(o:Nat)(v:Int):∀k,Lh M (M.pokeN h o v k)
 |0=>Lh.refl M
 |k+1=>(Lh.pokeN a o v k).trans (Lh.poke (by rw[((Lh.pokeN a o v k).2 h).2.2.1];exact a) _ _)
def yQ(M:MV):Ia->Prop
 |.inl (M',_)=>Lh M M'
 |.inr M'=>Lh M M'
theorem jU(s:Bool)(c:Nat)(A:Int)(d h:Nat)(M:MV)(j:Int):yQ M (Cm s c A d h M j):=by
 unfold Cm;by_cases b:M.nH<=h
 ·rw[if_pos b];exact Lh.refl M
 rw[if_neg b];by_cases a:(lies (M.Hp h).base A c (M.Hp h).len&&(!s||(M.Hp h).wr))=true
 ·rw[if_pos a]
  cases s with
  |true=>
   have e:(M.Hp h).wr=true:=by simpa using(Bool.and_eq_true_iff.1 a).2
   exact(show Lh M (M.see 1 A)from Lh.refl M).trans (Lh.pokeN (M:=M.see 1 A) e _ _ _)
  |false=>exact Lh.refl M
 ·rw[if_neg a];exact Lh.refl M
theorem pR(j d a b h:Nat)(c:Int)(M:MV)(e:Int):yQ M (exec j d a b h c M e):=by
 unfold exec;split;all_goals first
  |exact jU _ _ _ _ _ _ _
  |exact Lh.refl M
  |(unfold Da;split<;>(try split)<;>exact Lh.refl M)
  |(split<;>exact Lh.refl M)
theorem U8(bP b cP:Nat)(F:Nat->Nat->Int)(xR:Option Addr)(yR bR k:Nat)(R:Nat->Int)(z c hz hc:Bool)(xH:Option Addr)(yH bH nH:Nat)(Hp:Nat->Bv)(hA:Nat->Option Addr)(hC:Nat->Nat)(pc st:Int)(xO:Option Addr)(yO bO nO:Nat)(K V:Nat->Int)(a:Int)(w:World)
 (ar:b<=1048576)(ai:Ak w bP (b*6) (Kt F))(hs:Small k nH Hp nO)(hr:Lf R nH Hp)(hm:Hf w xR yR bR k R xH yH bH nH Hp hA hC xO yO bO nO K V):
 Calls Tryz.prog 9 #[Vs bP b cP,.agg #[.slice xR k yR,.bool z,.bool c,.bool hz,.bool hc,.slice xH nH yH,Vi pc,Vi st,.slice xO nO yO],Vi a] w fun e w'=>∃v,e=.returned v/\Below w.heap.size w w'/\yM w' w.heap.size v (Jh b F k {R:=R,z:=z,c:=c,hz:=hz,hc:=hc,nH:=nH,Hp:=Hp,pc:=pc,st:=st,nO:=nO,K:=K,V:=V} a):=by
 have HA:=hxy ai;have HS:=hxy hs;have HR:=hxy hr;have HM:=hxy hm;have lA:=ai.lt;clear ai hs hr hm;go_enter Tryz.func9,Tryz.ntmps9;go_upto_region 1 with fail;generalize L:(w.alloc (.cells #[.slice xR k yR,.bool z,.bool c,.bool hz,.bool hc,.slice xH nH yH,Vi pc,Vi st,.slice xO nO yO] 32)).alloc (.cells #[.slice none 0 0,.bool false,.bool false,.bool false,.bool false,.slice none 0 0,Vi 0,Vi 0,.slice none 0 0] 32)=M;have b0:Bw w M:=by rw[<-L];exact(Ai).alloc AX _
 have z0:w.heap.size+2<=M.heap.size:=by rw[<-L];simp
 have ag:Hid (M.ownsRow w.heap.size 32 9 (Vs w.heap.size 1 1) 1 [.slice xR k yR,.bool z,.bool c,.bool hz,.bool hc,.slice xH nH yH,Vi pc,Vi st,.slice xO nO yO]):=by rw[<-L];exact(World.ownsRow_lit w #[.slice xR k yR,.bool z,.bool c,.bool hz,.bool hc,.slice xH nH yH,Vi pc,Vi st,.slice xO nO yO] 1 BQ (by unfold maxLen;omega) rfl).alloc _
 have j:Hid (M.ownsRow w.heap.size 32 9 (.slice (some ⟨w.heap.size+1,0,none⟩) 1 1) 1 [.slice none 0 0,.bool false,.bool false,.bool false,.bool false,.slice none 0 0,Vi 0,Vi 0,.slice none 0 0]):=by
  rw[<-L];have:=World.ownsRow_lit (base:=w.heap.size) (e:=32) (size:=9) (w.alloc (.cells #[.slice xR k yR,.bool z,.bool c,.bool hz,.bool hc,.slice xH nH yH,Vi pc,Vi st,.slice xO nO yO] 32)) #[.slice none 0 0,.bool false,.bool false,.bool false,.bool false,.slice none 0 0,Vi 0,Vi 0,.slice none 0 0] 1 AX (by unfold maxLen;omega) rfl;rw[World.size_alloc]at this;exact this
 have l:=hxy b0;have y0:w.heap.size<M.heap.size:=AB;have y1:w.heap.size+1<M.heap.size:=AB;have q0:=Dl ag;clear L b0;by_cases U:a<0
 ·have n:decide (a<0)=true:=by simp[U]
  obtain⟨o,r,s,u,x,y,A,B,C⟩:=Dl j;have sf:∀i,M.frozen? ⟨w.heap.size+1,i,none⟩=false:=fun i=>j.frozenAt i
  go_wp2;refine bodyPost_ret (v:=.agg #[.slice none 0 0,.bool false,.bool false,.bool false,.bool false,.slice none 0 0,Vi 0,Vi 0,.slice none 0 0]) (by simp[results,Tryz.results9,go_sem,o,r,s,u,x,y,A,B,C]) rfl ⟨_,rfl,?_,?_⟩
  ·iterate 9 refine Below.setCell ?_ AX _
   exact l
  ·have n:Jh b F k {R:=R,z:=z,c:=c,hz:=hz,hc:=hc,nH:=nH,Hp:=Hp,pc:=pc,st:=st,nO:=nO,K:=K,V:=V} a=none:=by
    unfold Jh;rw[if_neg];simp only[Bool.and_eq_true];exact fun h=>by have:=h.2.1;unfold EM at this;simp only[Bool.and_eq_true,decide_eq_true_eq]at this;omega
   rw[n];rfl
 by_cases aj:(100000:Int)<a
 ·have n:decide (a<0)=false:=by simp[U]
  have e2:decide ((100000:Int)<a)=true:=by simp[aj]
  obtain⟨o,r,s,u,x,y,A,B,C⟩:=Dl j;have sf:∀i,M.frozen? ⟨w.heap.size+1,i,none⟩=false:=fun i=>j.frozenAt i
  go_wp2;refine bodyPost_ret (v:=.agg #[.slice none 0 0,.bool false,.bool false,.bool false,.bool false,.slice none 0 0,Vi 0,Vi 0,.slice none 0 0]) (by simp[results,Tryz.results9,go_sem,o,r,s,u,x,y,A,B,C]) rfl ⟨_,rfl,?_,?_⟩
  ·iterate 9 refine Below.setCell ?_ AX _
   exact l
  ·have n:Jh b F k {R:=R,z:=z,c:=c,hz:=hz,hc:=hc,nH:=nH,Hp:=Hp,pc:=pc,st:=st,nO:=nO,K:=K,V:=V} a=none:=by
    unfold Jh;rw[if_neg];simp only[Bool.and_eq_true];exact fun h=>by have:=h.2.1;unfold EM at this;simp only[Bool.and_eq_true,decide_eq_true_eq]at this;omega
   rw[n];rfl
 by_cases ap:(100000:Int)<nO
 ·have n:decide (a<0)=false:=by simp[U]
  have e2:decide ((100000:Int)<a)=false:=by simp[aj]
  have e3:decide ((100000:Int)<nO)=true:=by simp[ap]
  obtain⟨o,r,s,u,x,y,A,B,C⟩:=Dl j;have sf:∀i,M.frozen? ⟨w.heap.size+1,i,none⟩=false:=fun i=>j.frozenAt i
  go_wp2;refine bodyPost_ret (v:=.agg #[.slice none 0 0,.bool false,.bool false,.bool false,.bool false,.slice none 0 0,Vi 0,Vi 0,.slice none 0 0]) (by simp[results,Tryz.results9,go_sem,o,r,s,u,x,y,A,B,C]) rfl ⟨_,rfl,?_,?_⟩
  ·iterate 9 refine Below.setCell ?_ AX _
   exact l
  ·have n:Jh b F k {R:=R,z:=z,c:=c,hz:=hz,hc:=hc,nH:=nH,Hp:=Hp,pc:=pc,st:=st,nO:=nO,K:=K,V:=V} a=none:=by
    unfold Jh;rw[if_neg];simp only[Bool.and_eq_true];exact fun h=>by have:=h.2.2;simp only[decide_eq_true_eq]at this;omega
   rw[n];rfl
 have n:decide (a<0)=false:=by simp[U]
 have e2:decide ((100000:Int)<a)=false:=by simp[aj]
 have e3:decide ((100000:Int)<nO)=false:=by simp[ap]
 have hs0:0<=a:=AB;go_wp2_with fail;refine(Rt bP 0 b cP F M ar (HA.below l HA.lt).at).mono ?_;rintro e w1⟨rfl,b1⟩;have ah:=hxy (Av ag b1);have Q:=hxy (Av j b1);have O:Hid (Bw w w1):=l.trans (b1.mono AB);have z1:=b1.size;have y0:w.heap.size<w1.heap.size:=AB;have y1:w.heap.size+1<w1.heap.size:=AB;clear q0 b1 ag j l;have q0:=Dl ah;cases hf:EW b F with
 |false=>
  obtain⟨o,r,s,u,x,y,A,B,C⟩:=Dl Q;have sf:∀i,w1.frozen? ⟨w.heap.size+1,i,none⟩=false:=fun i=>Q.frozenAt i
  go_wp2;refine bodyPost_ret (v:=.agg #[.slice none 0 0,.bool false,.bool false,.bool false,.bool false,.slice none 0 0,Vi 0,Vi 0,.slice none 0 0]) (by simp[results,Tryz.results9,go_sem,o,r,s,u,x,y,A,B,C]) rfl ⟨_,rfl,?_,?_⟩
  ·iterate 9 refine Below.setCell ?_ AX _
   exact O
  ·have n:Jh b F k {R:=R,z:=z,c:=c,hz:=hz,hc:=hc,nH:=nH,Hp:=Hp,pc:=pc,st:=st,nO:=nO,K:=K,V:=V} a=none:=by
    unfold Jh;rw[if_neg];simp only[Bool.and_eq_true];exact fun h=>by have:=h.1.1;rw[hf]at this;cases this
   rw[n];rfl
 |true=>
  have HF:=hxy hf;clear hf;go_wp2_with fail;refine(La xR yR bR k R z c hz hc xH yH bH nH Hp hA hC pc st xO yO bO nO K V w1 HS (fun i hi=>(HR.base i hi).1) (HM.below O BQ)).mono ?_;rintro e Y⟨rfl,b2⟩;have an:=hxy (Av ah b2);have S:=hxy (Av Q b2);have ac:Hid (Bw w Y):=O.trans (b2.mono AB);have z2:=b2.size;have y0:w.heap.size<Y.heap.size:=AB;have y1:w.heap.size+1<Y.heap.size:=AB;clear q0 b2 ah Q O;have q0:=Dl an;cases hmo:Et k z c hz hc nH Hp pc st nO K with
  |false=>
   obtain⟨o,r,s,u,x,y,A,B,C⟩:=Dl S;have sf:∀i,Y.frozen? ⟨w.heap.size+1,i,none⟩=false:=fun i=>S.frozenAt i
   go_wp2;refine bodyPost_ret (v:=.agg #[.slice none 0 0,.bool false,.bool false,.bool false,.bool false,.slice none 0 0,Vi 0,Vi 0,.slice none 0 0]) (by simp[results,Tryz.results9,go_sem,o,r,s,u,x,y,A,B,C]) rfl ⟨_,rfl,?_,?_⟩
   ·iterate 9 refine Below.setCell ?_ AX _
    exact ac
   ·have n:Jh b F k {R:=R,z:=z,c:=c,hz:=hz,hc:=hc,nH:=nH,Hp:=Hp,pc:=pc,st:=st,nO:=nO,K:=K,V:=V} a=none:=by
     unfold Jh;rw[if_neg];simp only[Bool.and_eq_true];exact fun h=>by have h2:=h.1.2;rw[hmo]at h2;cases h2
    rw[n];rfl
  |true=>
   obtain⟨rfl,aB,al,au,aM⟩:=PL hmo;have OK:=qR (V:=V) hmo HR;have ay:Hid (Going {R:=R,z:=z,c:=c,hz:=hz,hc:=hc,nH:=nH,Hp:=Hp,pc:=pc,st:=st,nO:=nO,K:=K,V:=V} nO):=⟨OK,au,BQ⟩
   have Z:Hid (Jh b F 8 {R:=R,z:=z,c:=c,hz:=hz,hc:=hc,nH:=nH,Hp:=Hp,pc:=pc,st:=st,nO:=nO,K:=K,V:=V} a=some (MQ b F a.toNat {R:=R,z:=z,c:=c,hz:=hz,hc:=hc,nH:=nH,Hp:=Hp,pc:=pc,st:=st,nO:=nO,K:=K,V:=V})):=by
    show Jh _ _ _ _ _=_;unfold Jh;rw[if_pos];simp only[Bool.and_eq_true];exact⟨⟨HF,hmo⟩,by unfold EM;simp only[Bool.and_eq_true,decide_eq_true_eq];omega,by simp only[decide_eq_true_eq];omega⟩
   have az:Hid (∀i,i<nH->1<=(Hp i).len/\(Hp i).len<=4096):=fun i hi=>⟨(al i hi).1,(al i hi).2.1⟩
   obtain⟨D,aD⟩:=Int.eq_ofNat_of_zero_le hs0;have ab:a.toNat=D:=AB;have am:=hxy ab;subst aD;clear OK hmo al ab au;go_wp2_with fail;refine(TH xR yR bR 8 R z c hz hc xH yH bH nH Hp hA hC pc st xO yO bO nO K V Y rfl aB AB az (HM.below ac BQ)).mono ?_;rintro e w3⟨bC,p,aF,rfl,b3,C3⟩;have ao:=hxy (Av S b3);have ad:Hid (Bw w w3):=ac.trans (b3.mono AB);have z3:=b3.size;have H3:=hxy C3;clear q0 b3 C3 an S;go_wp2_with fail;go_loopw [8](fun i wr=>∃q:Nat,q<=D/\i=Vi q/\Below Y.heap.size w3 wr/\∃(p:Pl)(nx:Int)(N:MV),Core wr Y.heap.size bC p nx aF N/\Going N (nO+q)/\MQ b F (D-q) N=MQ b F D {R:=R,z:=z,c:=c,hz:=hz,hc:=hc,nH:=nH,Hp:=Hp,pc:=pc,st:=st,nO:=nO,K:=K,V:=V})(fun i _=>D-(intOf i).toNat)
   case atStart=>exact⟨0,Nat.zero_le _,rfl,Below.refl _ _,p,0,_,H3,ay,rfl⟩
   case round=>
    obtain⟨q,hq,rfl,ak,p,nx,N,hC,hg,aa⟩:=hrel;have m:=hxy ak;have d:=hxy hC;have HG:=hxy hg;have E:=hxy aa;have lC:=hC.lt;have zr:=ak.size;have aJ:=lC.2;have c7:=hC.c7;clear ak hC hg aa;by_cases aK:q<D
    ·have aG:(q:Int)<D:=AB
     by_cases X:N.st=0
     ·rw[X]at c7
      go_wp2_with fail;refine(jO d HG.ok (by have:=HG.seen;omega) HG.pc bP 0 b cP F ((HA.below (ad.trans (m.mono AB)) HA.lt).at) HF).mono ?_;rintro e w4⟨rfl,b4,p',aE,C4⟩;have aA:Hid (MQ b F (D-(q+1)) (stepM b F N)=MQ b F D {R:=R,z:=z,c:=c,hz:=hz,hc:=hc,nH:=nH,Hp:=Hp,pc:=pc,st:=st,nO:=nO,K:=K,V:=V}):=by
       rw[<-Qq b F _ X,show D-(q+1)+1=D-q by omega];exact E
      have ax:=hxy (Mv HF HG);have aw:=hxy C4;have av:=hxy (m.trans b4);clear b4 C4 c7;go_wp2;go_roundw
      case rel=>exact⟨q+1,AB,by go_num,av,p',aE,_,aw,ax,aA⟩
      case measure=>simp[intOf];omega
     ·have J:MQ b F D {R:=R,z:=z,c:=c,hz:=hz,hc:=hc,nH:=nH,Hp:=Hp,pc:=pc,st:=st,nO:=nO,K:=K,V:=V}=N:=by rw[<-E.out];exact EJ _ _ _ X
      have aI:(N.st==0)=false:=by simp[X]
      have af:=hxy J;have I:Hid (wr.ownsRow w.heap.size 32 9 (.slice (some ⟨w.heap.size+1,0,none⟩) 1 1) 1 [.slice none 0 0,.bool false,.bool false,.bool false,.bool false,.slice none 0 0,Vi 0,Vi 0,.slice none 0 0]):=LW ao (by simp[Value.ownBlock];omega) m;have ae:Hid (Bw w wr):=ad.trans (m.mono AB);have yr:w.heap.size+1<wr.heap.size:=AB;have aC:bC≠w.heap.size+1:=AB;have d0:=d.c0;have d1:=d.c1;have d2:=d.c2;have d3:=d.c3;have d4:=d.c4;have d5:=d.c5;have d6:=d.c6;have d8:=d.c8;obtain⟨o,r,s,u,x,y,A,B,C⟩:=Dl I;have sf:∀i,wr.frozen? ⟨w.heap.size+1,i,none⟩=false:=fun i=>I.frozenAt i
      clear J;go_wp2;refine bodyPost_ret (v:=.agg #[Vs p.bR 8 p.cR,.bool N.z,.bool N.c,.bool N.hz,.bool N.hc,.slice p.aH N.nH p.cH,Vi N.pc,Vi N.st,.slice p.aO N.nO p.cO]) (by simp[results,Tryz.results9,go_sem,o,r,s,u,x,y,A,B,C]) rfl ⟨_,rfl,?_,?_⟩
      ·iterate 9 refine Below.setCell ?_ AX _
       exact ae
      ·rw[Z.out,am.out,af.out]
       refine⟨p,rfl,Mem.mono (base:=Y.heap.size) ?_ AB⟩;iterate 9 refine Mem.setLow ?_ (by simp;omega) _
       exact d.mem
    ·obtain rfl:q=D:=AB
     have J:MQ b F q {R:=R,z:=z,c:=c,hz:=hz,hc:=hc,nH:=nH,Hp:=Hp,pc:=pc,st:=st,nO:=nO,K:=K,V:=V}=N:=by rw[<-E.out,Nat.sub_self];rfl
     have af:=hxy J;have I:Hid (wr.ownsRow w.heap.size 32 9 (.slice (some ⟨w.heap.size+1,0,none⟩) 1 1) 1 [.slice none 0 0,.bool false,.bool false,.bool false,.bool false,.slice none 0 0,Vi 0,Vi 0,.slice none 0 0]):=LW ao (by simp[Value.ownBlock];omega) m;have ae:Hid (Bw w wr):=ad.trans (m.mono AB);have yr:w.heap.size+1<wr.heap.size:=AB;have aC:bC≠w.heap.size+1:=AB;have d0:=d.c0;have d1:=d.c1;have d2:=d.c2;have d3:=d.c3;have d4:=d.c4;have d5:=d.c5;have d6:=d.c6;have d8:=d.c8;obtain⟨o,r,s,u,x,y,A,B,C⟩:=Dl I;have sf:∀i,wr.frozen? ⟨w.heap.size+1,i,none⟩=false:=fun i=>I.frozenAt i
     clear J;go_wp2;refine bodyPost_ret (v:=.agg #[Vs p.bR 8 p.cR,.bool N.z,.bool N.c,.bool N.hz,.bool N.hc,.slice p.aH N.nH p.cH,Vi N.pc,Vi N.st,.slice p.aO N.nO p.cO]) (by simp[results,Tryz.results9,go_sem,o,r,s,u,x,y,A,B,C]) rfl ⟨_,rfl,?_,?_⟩
     ·iterate 9 refine Below.setCell ?_ AX _
      exact ae
     ·rw[Z.out,am.out,af.out]
      refine⟨p,rfl,Mem.mono (base:=Y.heap.size) ?_ AB⟩;iterate 9 refine Mem.setLow ?_ (by simp;omega) _
      exact d.mem
end Go.Proofs.YtjoppncopoampaaGreatDoor
namespace Go.Proofs.YtjoppncopoampaaGreatDoor
open Go.RowKit Go.Deep
variable {n o rc:Nat}{S:Nat->HS}{L:Nat->SV}{V:Nat->VV}{u:World}
def dM(rs:List Int)(hs:List HD):MV:={R:=rL rs,z:=false,c:=false,hz:=false,hc:=false,nH:=hs.length,Hp:=hL hs,pc:=0,st:=0,nO:=0,K:=kL [],V:=vL []}
abbrev wR(ra:Option Addr)(rs:List Int)(rc:Nat)(ha:Option Addr)(hs:List HD)(hcp:Nat):Md:=⟨.slice ra rs.length rc,false,false,false,false,.slice ha hs.length hcp,0,0,.slice none 0 0,rs,hs,[]⟩
theorem uS{ra:Option Addr}{rs:List Int}{ha:Option Addr}{hs:List HD}{hcp nH:Nat}(h:OH (wR ra rs rc ha hs hcp) nH S V)(n4:nH<=4)(hr:Lf (rL rs) hs.length (hL hs))(hsz:∀i,i<nH->1<=(S i).size/\(S i).size<=4096):(dM rs hs).Ok:=by
 have hh:hs.length=nH:=h.nh;refine⟨hr.reg,show hs.length<=8 by omega,fun i hi=>?_,hr.dat⟩;have hi':i<hs.length:=hi;have k1:=(h.h.heap i hi').1;have k2:=hsz i (by omega);have k3:=h.h.tp i hi';have k4:=(hr.base i hi').1;have e1:((dM rs hs).Hp i).base=(hs.getD i hd0).base:=rfl;have e2:((dM rs hs).Hp i).len=(hs.getD i hd0).ds.length:=rfl;rw[e1,e2];dsimp only at k1 k3;have k5:0<=(hs.getD i hd0).base:=k4;exact⟨k5,by omega,by omega,k3⟩
theorem uj{ra:Option Addr}{rs:List Int}{ha:Option Addr}{hs:List HD}{hcp nH:Nat}(h:OH (wR ra rs rc ha hs hcp) nH S V):WI ⟨nH,S,V⟩ ⟨Fe V,0,0⟩ (dM rs hs):=by
 have hh:hs.length=nH:=h.nh;refine⟨hh,fun i hi=>h.h.heap i (show i<hs.length by have:i<nH:=hi;omega),fun i hi=>?_,Or.inl rfl,Or.inl rfl⟩;show CG (fun k=>((dM rs hs).Hp k).base) (Fe V i) (rL rs i);unfold Fe;rw[if_pos hi];exact h.rg i hi
structure LZ(w:World)(bH cH nH:Nat)(S:Nat->HS)(bR cR:Nat)(V0:Nat->VV)(g N:Nat)(L:Nat->SV)(qs qm:Nat)(ra:Option Addr)(rs:List Int)(rc:Nat)(ha:Option Addr)(hs:List HD)(hcp:Nat)(u:World):Prop where
 B:Below w.heap.size w u
 X:u.heap[qs]?=some (.cells #[Vs bH nH cH,Vs bR 8 cR] 26)
 Y:u.heap[qm]?=some (.cells #[.slice ra rs.length rc,.bool false,.bool false,.bool false,.bool false,.slice ha hs.length hcp,Vi 0,Vi 0,.slice none 0 0] 32)
 G:Ck u bH nH S bR 8 V0
 A:Ak u g (N*11) (JW L)
 M:ML w.heap.size (wR ra rs rc ha hs hcp) u
theorem LZ.below{w:World}{bH cH:Nat}{D cR:Nat}{O:Nat->VV}{g N:Nat}{k e:Nat}{I:Option Addr}{F:List Int}{p:Option Addr}{a:List HD}{Q:World}(h:LZ w bH cH o S D cR O g N L k e I F rc p a n u)(f:Below u.heap.size u Q):LZ w bH cH o S D cR O g N L k e I F rc p a n Q:=
 ⟨h.B.trans (f.mono h.B.size),Ac h.X f,Ac h.Y f,h.G.below f,h.A.below f h.A.lt,h.M.below f⟩
theorem vM{P:List NV}:∀(k:Nat)(M:MV),Lh M (Dw P k M):=by
 intro k;induction k with
 |zero=>intro M;exact Lh.refl M
 |succ k c=>
  intro M;by_cases h:M.st=0
  ·rw[I5 h]
   refine Lh.trans ?_ (c _);unfold uH stepM;split
   ·exact⟨rfl,fun _=>⟨rfl,rfl,rfl,fun _=>rfl⟩⟩
   ·have a:=pR (MW P M.pc.toNat 0).toNat (MW P M.pc.toNat 1).toNat (MW P M.pc.toNat 2).toNat (MW P M.pc.toNat 3).toNat (MW P M.pc.toNat 5).toNat (MW P M.pc.toNat 4) M (M.pc+1)
    split
    ·rename_i b;rw[b]at a;exact a
    ·rename_i b;rw[b]at a;exact a
  ·rw[show Dw P (k+1) M=M from EJ _ _ _ h];exact Lh.refl M
theorem xD{P:List NV}(b:EW P.length (MW P)=true):∀(k n:Nat)(M:MV),Going M n->(Dw P k M).Ok:=by
 intro k;induction k with
 |zero=>intro n M h;exact h.ok
 |succ k c=>
  intro n M h;by_cases a:M.st=0
  ·rw[I5 a];exact c _ _ (Mv b h)
  ·rw[show Dw P (k+1) M=M from EJ _ _ _ a];exact h.ok
theorem uN{J:Nat}{e a:Int}(h:Ld o S J V L n=.bad e a):e≠0:=by
 unfold Ld at h;split at h
 ·split at h
  ·exact kP _ _ _ _ BQ _ _ _ _ h
  ·have:=(CR.badI h).1;omega
 ·have:=(CR.badI h).1;omega
theorem mV{J:Nat}{F:FS}{r:Int}(h:Ld o S J V L n=.ok F r):Hq L n/\ET ⟨o,S,V⟩ (seg L 0 n) 0 ⟨Fe V,0,0⟩ 0=.ok F r:=by
 unfold Ld at h;split at h
 ·split at h
  ·rename_i a;exact⟨a,h⟩
  ·cases h
 ·cases h
theorem qd(g N j:Nat)(L:Nat->SV)(u:World)(p:N<=9330)(o:Hq L N)(m:Ak u g (N*11) (JW L)):Calls Tryz.prog 10 #[Vs g N j] u fun e h=>∃a c,e=.returned (Vs a (Bb L N).length c)/\Ak h a ((Bb L N).length*6) (Kt (MW (Bb L N)))/\Below u.heap.size u h:=by
 refine(Pp g N j L u AB m).mono ?_;rintro e h⟨v,rfl,b,k⟩;obtain⟨l,_⟩:=Ni o;have d:0<(Bb L N).length:=by rw[l,List.length_append];show 0<_+1;omega
 obtain⟨a,c,rfl⟩:=Dy b d;exact⟨a,c,rfl,⟨(b.lt a rfl).2,fun i=>b.frozenAt i,fun i n=>(b.cellAt i AB).trans (nS _ i n)⟩,k⟩
theorem Z6(gP cP:Nat)(L:Nat->SV)(N:Nat)(ra:Option Addr)(rs:List Int)(rc:Nat)(ha:Option Addr)(hs:List HD)(hcp nH B:Nat)(S:Nat->HS)(V:Nat->VV)(u:World)(hr:Hq L N)(n4:nH<=4)(hsz:∀i,i<nH->1<=(S i).size/\(S i).size<=4096)(hf:OH (wR ra rs rc ha hs hcp) nH S V)(hm:ML B (wR ra rs rc ha hs hcp) u)(hA:Ak u gP ((Bb L N).length*6) (Kt (MW (Bb L N)))):
 Calls Tryz.prog 9 #[.slice (some ⟨gP,0,none⟩) (Bb L N).length cP,.agg #[.slice ra rs.length rc,.bool false,.bool false,.bool false,.bool false,.slice ha hs.length hcp,.int .i64 0,.int .i64 0,.slice none 0 0],.int .i64 2000] u fun e u'=>∃p,e=.returned (.agg (ZQ p (Dw (Bb L N) 2000 (dM rs hs))))/\Mem u' u.heap.size p (Dw (Bb L N) 2000 (dM rs hs))/\Below u.heap.size u u':=by
 obtain⟨gR,gH,gO,hg⟩:=ML.g (rs:=rs) (hs:=hs) (os:=[]) hm hA;have hnh:hs.length=nH:=hf.nh;have hnr:rs.length=8:=hf.nr;have hrg:=hm.range;have hsm:=hm.small (by show rs.length<=8;omega) (by show hs.length<=8;omega) (by show 0<=2;omega);have hmk:=UL hf n4 (fun i hi=>(hrg.base i hi).1) hsz;obtain⟨er,hl⟩:=Ni hr;have hl2:(Bb L N).length<=2000:=by rw[er,List.length_append];show _+1<=_;omega
 refine(U8 gP (Bb L N).length cP (MW (Bb L N)) ra rc gR rs.length (rL rs) false false false false ha hcp gH hs.length (hL hs) (aL hs) (cL hs) 0 0 none 0 gO 0 (kL []) (vL []) 2000 u (by omega) hA hsm hrg hg).mono ?_;rintro e u'⟨v,rfl,hb,an⟩;change yM _ _ _ (Jh (Bb L N).length (MW (Bb L N)) rs.length (dM rs hs) 2000)at an;have h1:Jh (Bb L N).length (MW (Bb L N)) rs.length (dM rs hs) 2000=some (Dw (Bb L N) 2000 (dM rs hs)):=by
  unfold Jh;rw[if_pos]
  ·rfl
  ·rw[Uf hr,show Et rs.length (dM rs hs).z (dM rs hs).c (dM rs hs).hz (dM rs hs).hc (dM rs hs).nH (dM rs hs).Hp (dM rs hs).pc (dM rs hs).st (dM rs hs).nO (dM rs hs).K=true from hmk]
   show(true&&true&&(EM 2000 0 100000&&decide ((0:Nat)<=100000)))=true;decide
 rw[h1]at an;obtain⟨p,rfl,hmm⟩:=an;exact⟨p,rfl,hmm,hb⟩
theorem Mem.putT{B q:Nat}{p:Pl}{M:MV}{I:Array Value}(h:Mem u B p M)(a:u.heap[q]?=some (.cells I 32))(j:Nat)(v:Value):Mem (u.setCell (Va q j) v) B p M:=
 ⟨CV h.regs (Ar a h.regs Ad) j v,CV h.heaps (Ar a h.heaps Ad) j v,fun i b=>CV (h.data i b) (Ar a (h.data i b) Ad) j v,CV h.obs (Ar a h.obs Ad) j v,h.ne⟩
def SE(u7:World)(q8:Nat)(p:Pl)(MR:MV)(u:World):Prop:=Below u7.heap.size u7 u/\u.heap[q8]?=some (.cells (ZQ p MR) 32)/\Mem u u7.heap.size p MR
theorem WO{u7:World}{O:Nat}{p:Pl}{M:MV}(l:Below u7.heap.size u7 u)(e:u.heap[O]?=some (.cells GQ.a 32))(n:u7.heap.size<=O)(m:Mem u u7.heap.size p M):SE u7 O p M (JP u O (Vs p.bR 8 p.cR) (.bool M.z) (.bool M.c) (.bool M.hz) (.bool M.hc) (.slice p.aH M.nH p.cH) (Vi M.pc) (Vi M.st) (.slice p.aO M.nO p.cO)):=by
 refine⟨CY (P:=fun y=>Bw u7 y) l (fun _ j v h=>h.setCell (p:=Va O j) n v) _ _ _ _ _ _ _ _ _,Lv e _ _ _ _ _ _ _ _ _,?_⟩;exact(CY (P:=fun y=>(∃b,y.heap[O]?=some (.cells b 32))/\Mem y u7.heap.size p M) ⟨⟨_,e⟩,m⟩ (fun _ j v h=>by obtain⟨⟨b,d⟩,k⟩:=h;exact⟨⟨_,BG d j v⟩,k.putT d j v⟩) _ _ _ _ _ _ _ _ _).2
end Go.Proofs.YtjoppncopoampaaGreatDoor
