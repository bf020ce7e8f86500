import Derived.Test.YtcjnmdgomocpgaaGreatDoorOfFlMath
import Derived.Test.YtcjnmdgomocpgaaGreatDoorFtStep
set_option maxHeartbeats 8000000
set_option maxRecDepth 20000
namespace Go.Proofs.YtcjnmdgomocpgaaGreatDoor
open Go.RowKit
def Ku(v:VV)(x:Int)(Hp:Nat->Bv):Bool:=
 if v.k=0 then decide (v.m= -1∨x<=v.m)else decide (v.lo<=IntKind.i64.wrap (x-(Hp v.h.toNat).base)/\IntKind.i64.wrap (x-(Hp v.h.toNat).base)<=v.hi)
theorem Sl(a:Int)(s j:Bool)(c:Int)(wr:Bool)(k:Option Addr)(b d:Nat)(w:World)(_hl:b<=1048576):
 Ks 76 #[.agg #[Vi a,.bool s,.bool j],.agg #[.int .u64 c,.bool wr,.slice k b d]] w fun e l=>e=.returned (.bool (decide (a=(b:Int))&&(j==wr)))/\Below w.heap.size w l:=by
 by_cases h:(b:Int)=a
 ·go_enter Tryz.func76,Tryz.ntmps76
  go_wp2;all_goals(go_ret;refine⟨AY ?_,(Ai).alloc AX _⟩;cases j<;>cases wr<;>simp[h])
 ·go_enter Tryz.func76,Tryz.ntmps76
  go_wp2;all_goals(go_ret;refine⟨AY ?_,(Ai).alloc AX _⟩;simp[Ne.symm h])
theorem UX{n:Int}(a:0<=n)(b:n<=2199023255552):IntKind.u64.wrap n=n:=by rw[IntKind.wrap_u64];omega
theorem kD{x base h hi:Int}(a: -1099511627776<=h)(b:h<=hi)(c:hi<=1099511627776):
 decide (IntKind.u64.wrap (IntKind.u64.wrap (x-base)-IntKind.u64.wrap h)<=hi-h)=decide (h<=IntKind.i64.wrap (x-base)/\IntKind.i64.wrap (x-base)<=hi):=by
 simp only[IntKind.wrap_u64,IntKind.wrap_i64,decide_eq_decide];omega
theorem Tc(k:Int)(s:Bool)(m h l d x:Int)(B p n:Nat)(c:Nat->Bv)(w:World)(o:Cy ⟨k,s,m,h,l,d⟩ n=true)
 (a:∀i,i<n->0<=(c i).base/\(c i).base<=18446744073709551615)(b:Ak w B (n*3) (CO c)):
 Ks 116 #[.agg #[Vi k,.bool s,Vi m,Vi h,Vi l,Vi d],.int .u64 x,Vs B n p] w fun e O=>e=.returned (.bool (Ku ⟨k,s,m,h,l,d⟩ x c))/\Below w.heap.size w O:=by
 have Q:=b.lt;by_cases A:k=0
 ·subst A
  simp only[Cy,if_true,decide_eq_true_eq]at o;obtain⟨K,L,_⟩:=o;clear b a;by_cases C:m= -1
  ·subst C
   go_enter Tryz.func116,Tryz.ntmps116;go_wp2;go_ret;exact⟨AY (by simp[Ku]),Ai⟩
  ·have M:0<=m:=AB
   go_enter Tryz.func116,Tryz.ntmps116;go_wp2;go_ret;exact⟨AY (by simp[Ku,C]),Ai⟩
 ·simp only[Cy,A,if_false,decide_eq_true_eq]at o
  obtain⟨rfl,rfl,rfl,F,I,u,r,q⟩:=o;obtain⟨j,rfl⟩:∃j:Nat,h=(j:Int):=⟨h.toNat,AB⟩
  have J:j<n:=AB;obtain⟨S,U⟩:=a j J;have E:=((b.cell (i:=j*3+0) AB).trans (congrArg some (Iz _ j)))
  simp only[Nat.add_zero]at E;have z:=kD (x:=x) (base:=(c j).base) u r q;have N:(0:Int)<=d-l:=AB;have y:d-l<=2199023255552:=AB;have R:=UX N y;have D:=hxy z;clear b a z;go_enter Tryz.func116,Tryz.ntmps116;go_wp2;go_quiet(fail);go_wp2;go_ret;refine⟨AY ?_,?_⟩
  ·simp only[Ku,Int.toNat_natCast]
   rw[<-D.out,if_neg AB]
  ·exact below_drewN Ai _
theorem Oz(o Q b:Nat)(S:Nat->HS)(B A:Nat)(n:Nat->Bv)(w:World)(Z:b<=1048576)(j:∀i,i<b->(n i).len<=1048576)(C:Ak w o (b*3) (Ur S))(l:Ak w B (b*3) (CO n))(s:∀i,i<b->(S i).size=((n i).len:Int)/\(S i).w=(n i).wr):
 Ks 75 #[Vs o b Q,Vs B b A,.func (.func 76) #[] #[]] w fun e U=>e=.returned (.bool true)/\Below w.heap.size w U:=by
 have d:=C.lt;have u:=l.lt;have x:=hxy C;have y:=hxy l;have O:=hxy j;have q:=hxy s;clear C l j s;have J:∀h w,(callFunc 76 h).run Tryz.prog w=.ok (.enter 76 h) w:=by intro _ _;go_simp
 go_enter Tryz.func75,Tryz.ntmps75;go_wp2;go_loopw [17](fun i wr=>∃k:Nat,k<=b/\i=Vi k/\Bw w wr)(fun i _=>b-(intOf i).toNat)
 case atStart=>exact⟨0,Nat.zero_le _,rfl,Below.refl _ _⟩
 case round=>
  obtain⟨k,Y,rfl,a⟩:=hrel;by_cases m:k<b
  ·have L:=(a.cell (p:=Va o (k*3)) d).trans (x.cell (i:=k*3+0) AB |>.trans (congrArg some (Fb S k 0 AB)))
   have M:=(a.cell (p:=Va o (k*3+1)) d).trans (x.cell (i:=k*3+1) AB |>.trans (congrArg some (Fb S k 1 AB)));have N:=(a.cell (p:=Va o (k*3+2)) d).trans (x.cell (i:=k*3+2) AB |>.trans (congrArg some (Fb S k 2 AB)));have D:=(a.cell (p:=Va B (k*3)) u).trans ((y.cell (i:=k*3+0) AB).trans (congrArg some (Iz _ k)));have E:=(a.cell (p:=Va B (k*3+1)) u).trans ((y.cell (i:=k*3+1) AB).trans (congrArg some (JE _ k)));have F:=(a.cell (p:=Va B (k*3+2)) u).trans ((y.cell (i:=k*3+2) AB).trans (congrArg some (GD _ k)));simp only[wm]at L M N D E F;have R:B<wr.heap.size:=Ey u a.size;have I:o<wr.heap.size:=Ey d a.size;have c:=hxy a;clear a;go_wp2_with fail;refine(Sl _ _ _ _ _ _ _ _ _ (O k m)).mono ?_;rintro e X⟨rfl,r⟩;have z:Hid (Bw w X):=((c.alloc c.size _).alloc (by have:=c.size;simp;omega) _).trans (r.mono (by have:=c.size;simp;omega));clear r L M N D E F;have K:(decide ((S k).size=((n k).len:Int))&&((S k).w==(n k).wr))=true:=by
    rw[(q.out k m).1,(q.out k m).2];simp
   rw[K];clear K;go_wp2;go_roundw
   case rel=>exact⟨k+1,AB,by go_num,z⟩
   case measure=>simp[intOf];omega
  ·obtain rfl:k=b:=AB
   go_wp2;go_ret;exact⟨rfl,a⟩
theorem RO(r cV:Nat)(V:Nat->VV)(q Y:Nat)(R:Nat->Int)(z c hz hc:Bool)(B x n:Nat)(I:Nat->Bv)(pc st:Int)(aO:Option Addr)(nO cO:Nat)(w:World)(hg:∀i,i<8->Cy (V i) n=true)
 (o:∀i,i<n->0<=(I i).base/\(I i).base<=18446744073709551615)(Z:Ak w r (8*6) (vF V))(h2:Ak w q 8 (EU .u64 R))(K:Ak w B (n*3) (CO I))(L:∀i,i<8->Ku (V i) (R i) I=true):
 Ks 77 #[Vs r 8 cV,.agg #[Vs q 8 Y,.bool z,.bool c,.bool hz,.bool hc,Vs B n x,Vi pc,Vi st,.slice aO nO cO]] w fun e a=>e=.returned (.bool true)/\Below w.heap.size w a:=by
 have E:=Z.lt;have l2:=h2.lt;have C:=hxy Z;have H2:=hxy h2;have HC:=hxy K;have HG:=hxy hg;have HZ:=hxy o;have X:=hxy L;clear Z h2 K hg o L;go_enter Tryz.func77,Tryz.ntmps77;go_wp2;go_loopw [9](fun i wr=>∃k:Nat,k<=8/\i=Vi k/\Bw w wr/\w.heap.size<wr.heap.size/\wr.cell? ⟨w.heap.size,0,none⟩=some (Vs q 8 Y)/\wr.cell? ⟨w.heap.size,5,none⟩=some (Vs B n x))(fun i _=>8-(intOf i).toNat)
 case atStart=>exact⟨0,Nat.zero_le _,rfl,Ai,AX,by simp[go_sem],by simp[go_sem]⟩
 case round=>
  obtain⟨k,hk,rfl,d,j,x0,x5⟩:=hrel;have F:=hxy d;by_cases M:k<8
  ·have g0:=(d.cell (p:=Va r (k*6)) E).trans (C.cell (i:=k*6+0) AB |>.trans (congrArg some (Bz V k 0 AB)))
   have g1:=(d.cell (p:=Va r (k*6+1)) E).trans (C.cell (i:=k*6+1) AB |>.trans (congrArg some (Bz V k 1 AB)));have g2:=(d.cell (p:=Va r (k*6+2)) E).trans (C.cell (i:=k*6+2) AB |>.trans (congrArg some (Bz V k 2 AB)));have g3:=(d.cell (p:=Va r (k*6+3)) E).trans (C.cell (i:=k*6+3) AB |>.trans (congrArg some (Bz V k 3 AB)));have g4:=(d.cell (p:=Va r (k*6+4)) E).trans (C.cell (i:=k*6+4) AB |>.trans (congrArg some (Bz V k 4 AB)));have g5:=(d.cell (p:=Va r (k*6+5)) E).trans (C.cell (i:=k*6+5) AB |>.trans (congrArg some (Bz V k 5 AB)));have r0:=(d.cell (p:=Va q k) l2).trans (H2.cell (i:=k) AB);simp only[vC,EU]at g0 g1 g2 g3 g4 g5 r0;have O:q<wr.heap.size:=Ey l2 d.size;clear d;go_upto_region 4 with fail;obtain⟨l,N,b,y⟩:∃v,wr.alloc (.cells #[Vi (V k).k,.bool (V k).s,Vi (V k).m,Vi (V k).h,Vi (V k).lo,Vi (V k).hi] 47)=v/\Bw wr v/\Cl v wr.heap.size [Vi (V k).k,.bool (V k).s,Vi (V k).m,Vi (V k).h,Vi (V k).lo,Vi (V k).hi]:=⟨_,rfl,Ai,Cl.new⟩
   rw[N];have u:=hxy (F.trans (b.mono F.size));have p0:∀a,Bw l a->a.cell? ⟨w.heap.size,0,none⟩=some (Vs q 8 Y):=fun a h=>(h.cell (p:=⟨w.heap.size,0,none⟩) (Ey j b.size)).trans ((b.cell (p:=⟨w.heap.size,0,none⟩) j).trans x0)
   have p5:∀a,Bw l a->a.cell? ⟨w.heap.size,5,none⟩=some (Vs B n x):=fun a h=>(h.cell (p:=⟨w.heap.size,5,none⟩) (Ey j b.size)).trans ((b.cell (p:=⟨w.heap.size,5,none⟩) j).trans x5)
   have pr:Cb l q k (.int .u64 (R k)):=fun a h=>(h.cell (p:=Va q k) (Ey O b.size)).trans ((b.cell (p:=Va q k) O).trans r0)
   have v0:∀a,Bw l a->a.cell? ⟨wr.heap.size,0,none⟩=some (Vi (V k).k):=fun a h=>(y.below h).2 0 AX
   have v1:∀a,Bw l a->a.cell? ⟨wr.heap.size,1,none⟩=some (.bool (V k).s):=fun a h=>(y.below h).2 1 AX
   have v2:∀a,Bw l a->a.cell? ⟨wr.heap.size,2,none⟩=some (Vi (V k).m):=fun a h=>(y.below h).2 2 AX
   have v3:∀a,Bw l a->a.cell? ⟨wr.heap.size,3,none⟩=some (Vi (V k).h):=fun a h=>(y.below h).2 3 AX
   have v4:∀a,Bw l a->a.cell? ⟨wr.heap.size,4,none⟩=some (Vi (V k).lo):=fun a h=>(y.below h).2 4 AX
   have v5:∀a,Bw l a->a.cell? ⟨wr.heap.size,5,none⟩=some (Vi (V k).hi):=fun a h=>(y.below h).2 5 AX
   have y0:=(b.cell (p:=⟨w.heap.size,0,none⟩) j).trans x0;have y5:=(b.cell (p:=⟨w.heap.size,5,none⟩) j).trans x5;have A:w.heap.size<l.heap.size:=Ey j b.size;clear N y b x0 x5 g0 g1 g2 g3 g4 g5 r0;refine wp_region_held_drew (S:=fun a=>Bw l a) AV BJ.drew (fun _=>?_);refine EX [0,1,2,3,4,5,6,7] ?_;refine AO 8 rfl (fun KK hK=>?_);go_simp;have U:=hxy u.drew;refine(Tc _ _ _ _ _ _ _ _ _ _ I _ (HG k M) HZ (HC.below U HC.lt)).mono ?_;rintro e w2⟨rfl,J⟩;have D:Bw l w2:=(BJ.drew).trans J;have Q:=hxy (u.trans (D.mono u.size));have z0:=(D.cell (p:=⟨w.heap.size,0,none⟩) A).trans y0;have z5:=(D.cell (p:=⟨w.heap.size,5,none⟩) A).trans y5;have aa:w.heap.size<w2.heap.size:=Ey A D.size;clear J;go_wp2_with fail;refine hK.out _ _ D (fun _=>?_);clear hK KK;try go_frame
   refine AU 9 ?_;refine wpAnyH_done AV ?_ _;clear p0 p5 pr v0 v1 v2 v3 v4 v5 y0 y5 D;rw[X.out k M];go_wp2;go_roundw
   case rel=>exact⟨k+1,AB,by go_num,Q,aa,z0,z5⟩
   case measure=>simp[intOf];omega
  ·obtain rfl:k=8:=AB
   go_wp2;go_ret;exact⟨rfl,d⟩
theorem sK{a:Nat->Bv}{v:VV}{x:Int}{n:Nat}(c:GV v n)(h:CG (fun k=>(a k).base) v x):Ku v x a=true:=by
 unfold Ku;rcases h with⟨k,h⟩|⟨k,d,e,j,b⟩
 ·rw[if_pos k];exact decide_eq_true h
 ·rw[if_neg AB]
  rcases c with q|⟨_,_,_,_,_,l,_,m⟩
  ·omega
  ·dsimp only at b
   subst b;rw[IntKind.wrap_i64];exact decide_eq_true AB
theorem UL{m:Md}{o:Nat}{S:Nat->HS}{V:Nat->VV}(h:OH m o S V)(u:o<=4)(c:∀i,i<m.hs.length->0<=(m.hs.getD i hd0).base)(b:∀i,i<o->1<=(S i).size/\(S i).size<=4096):Et m.rs.length false false false false m.hs.length (hL m.hs) 0 0 0 (kL [])=true:=by
 have k:=h.nh;have e:Ea m.hs.length (hL m.hs)=true:=by
  unfold Ea;rw[Bool.and_eq_true];refine⟨decide_eq_true AB,LH fun i a=>?_⟩;have l:=(h.h.heap i a).1;have n:=b i AB;have q:=h.h.tp i a;have r:=c i a;unfold Bg;rw[Bool.and_eq_true];refine⟨?_,LH fun j d=>?_⟩
  ·unfold qO
   show(decide (1<=((m.hs.getD i hd0).ds.length:Int))&&decide (((m.hs.getD i hd0).ds.length:Int)<=4096)&&decide ((m.hs.getD i hd0).base<=18446744073709551615-((m.hs.getD i hd0).ds.length:Int)))=true;rw[decide_eq_true AB,decide_eq_true AB,decide_eq_true AB];rfl
  ·have s:=h.h.sp j i d a
   unfold Il;show(!(decide ((m.hs.getD j hd0).base<(m.hs.getD i hd0).base+((m.hs.getD i hd0).ds.length:Int))&&decide ((m.hs.getD i hd0).base<(m.hs.getD j hd0).base+((m.hs.getD j hd0).ds.length:Int))))=true;rw[decide_eq_false (p:=(m.hs.getD i hd0).base<_) AB,Bool.and_false];rfl
 unfold Et;rw[e,h.nr];decide
theorem SB(bH cH nH:Nat)(S:Nat->HS)(bR cR:Nat)(V:Nat->VV)(ra:Option Addr)(rc:Nat)(ha:Option Addr)(hcp:Nat)(rs:List Int)(hs:List HD)(B:Nat)(w:World)(n1:1<=nH)(n4:nH<=4)(hok:Db nH S 8 V=true)(hgv:∀i,i<8->GV (V i) nH)(hsz:∀i,i<nH->1<=(S i).size/\(S i).size<=4096)(h1:Ck w bH nH S bR 8 V)(hf:OH ⟨.slice ra rs.length rc,false,false,false,false,.slice ha hs.length hcp,0,0,.slice none 0 0,rs,hs,[]⟩ nH S V)(hm:ML B ⟨.slice ra rs.length rc,false,false,false,false,.slice ha hs.length hcp,0,0,.slice none 0 0,rs,hs,[]⟩ w):
 Ks 36 #[.agg #[.slice (some ⟨bH,0,none⟩) nH cH,.slice (some ⟨bR,0,none⟩) 8 cR],.agg #[.slice ra rs.length rc,.bool false,.bool false,.bool false,.bool false,.slice ha hs.length hcp,.int .i64 0,.int .i64 0,.slice none 0 0]] w fun e w'=>e=.returned (.bool true)/\Below w.heap.size w w':=by
 obtain⟨gR,gH,gO,hg⟩:=ML.g (rs:=rs) (hs:=hs) (os:=[]) hm h1.h;have hnh:hs.length=nH:=hf.nh;have hnr:rs.length=8:=hf.nr;have hrg:=hm.range;have hsm:=hm.small (by show rs.length<=8;omega) (by show hs.length<=8;omega) (by show 0<=2;omega);have hbb:∀i,i<hs.length->0<=(hs.getD i hd0).base:=fun i hi=>(hrg.base i hi).1
 have hmk:=UL hf n4 hbb hsz;have eR:ra=some ⟨gR,0,none⟩:=hg.eR.some (by omega);have eH:ha=some ⟨gH,0,none⟩:=hg.eH.some (by omega);subst eR eH hnh;dsimp only at hmk;have HS:Hid (Small rs.length hs.length (hL hs) 0):=hsm;have HR:Hid (Lf (rL rs) hs.length (hL hs)):=hrg;have HMK:Hid _:=hmk;have HF:Hid (OH ⟨.slice (some ⟨gR,0,none⟩) rs.length rc,false,false,false,false,.slice (some ⟨gH,0,none⟩) hs.length hcp,0,0,.slice none 0 0,rs,hs,[]⟩ hs.length S V):=hf;have HOK:Hid (Db hs.length S 8 V=true):=hok;have HGV:Hid (∀i,i<8->GV (V i) hs.length):=hgv;have C0:Hid (Ck w bH hs.length S bR 8 V):=h1;have M0:Hid (Hf w (some ⟨gR,0,none⟩) rc gR rs.length (rL rs) (some ⟨gH,0,none⟩) hcp gH hs.length (hL hs) (aL hs) (cL hs) none 0 gO 0 (kL []) (vL [])):=hg;clear hg hsm hrg hmk hf hok hgv h1 hm hbb hsz;have HNR:Hid (rs.length=8):=hnr;clear hnr;go_enter Tryz.func36,Tryz.ntmps36;go_wp2_with fail;obtain⟨u0,hv,hb,p0,q0⟩:∃v,(w.alloc (.cells #[.slice (some ⟨bH,0,none⟩) hs.length cH,.slice (some ⟨bR,0,none⟩) 8 cR] 26)).alloc (.cells #[.slice (some ⟨gR,0,none⟩) rs.length rc,.bool false,.bool false,.bool false,.bool false,.slice (some ⟨gH,0,none⟩) hs.length hcp,.int .i64 0,.int .i64 0,.slice none 0 0] 39)=v/\Below w.heap.size w v/\Cl v w.heap.size [.slice (some ⟨bH,0,none⟩) hs.length cH,.slice (some ⟨bR,0,none⟩) 8 cR]/\Cl v (w.heap.size+1) [.slice (some ⟨gR,0,none⟩) rs.length rc,.bool false,.bool false,.bool false,.bool false,.slice (some ⟨gH,0,none⟩) hs.length hcp,.int .i64 0,.int .i64 0,.slice none 0 0]:=by
  refine⟨_,rfl,((Below.refl _ _).alloc (Nat.le_refl _) _).alloc (by simp) _,(Cl.new).below ((Below.refl _ _).alloc (Nat.le_refl _) _),?_⟩;have h:=Cl.new (w:=w.alloc (.cells #[.slice (some ⟨bH,0,none⟩) hs.length cH,.slice (some ⟨bR,0,none⟩) 8 cR] 26)) (vs:=#[.slice (some ⟨gR,0,none⟩) rs.length rc,.bool false,.bool false,.bool false,.bool false,.slice (some ⟨gH,0,none⟩) hs.length hcp,.int .i64 0,.int .i64 0,.slice none 0 0]) (t:=39);simp only[World.size_alloc]at h;exact h
 rw[hv];have BU:Hid (Below w.heap.size w u0):=hb;have P:Hid (Cl u0 w.heap.size [.slice (some ⟨bH,0,none⟩) hs.length cH,.slice (some ⟨bR,0,none⟩) 8 cR]):=p0;have Q:Hid (Cl u0 (w.heap.size+1) [.slice (some ⟨gR,0,none⟩) rs.length rc,.bool false,.bool false,.bool false,.bool false,.slice (some ⟨gH,0,none⟩) hs.length hcp,.int .i64 0,.int .i64 0,.slice none 0 0]):=q0;have CU:Hid (Ck u0 bH hs.length S bR 8 V):=C0.out.below hb;have MU:Hid (Hf u0 (some ⟨gR,0,none⟩) rc gR rs.length (rL rs) (some ⟨gH,0,none⟩) hcp gH hs.length (hL hs) (aL hs) (cL hs) none 0 gO 0 (kL []) (vL [])):=M0.out.below hb (Nat.le_refl _);clear hv hb p0 q0 C0 M0;refine(Mw _ _ _ S _ _ _ V _ (by omega) (by omega) CU.out).mono ?_;rintro e u1⟨rfl,hb⟩;rw[HOK.out];have B':Hid (Below w.heap.size w u1):=BU.out.trans (hb.mono BU.out.size);have P':Hid (Cl u1 w.heap.size [.slice (some ⟨bH,0,none⟩) hs.length cH,.slice (some ⟨bR,0,none⟩) 8 cR]):=P.out.below hb;have Q':Hid (Cl u1 (w.heap.size+1) [.slice (some ⟨gR,0,none⟩) rs.length rc,.bool false,.bool false,.bool false,.bool false,.slice (some ⟨gH,0,none⟩) hs.length hcp,.int .i64 0,.int .i64 0,.slice none 0 0]):=Q.out.below hb;have C':Hid (Ck u1 bH hs.length S bR 8 V):=CU.out.below hb;have M':Hid (Hf u1 (some ⟨gR,0,none⟩) rc gR rs.length (rL rs) (some ⟨gH,0,none⟩) hcp gH hs.length (hL hs) (aL hs) (cL hs) none 0 gO 0 (kL []) (vL [])):=MU.out.below hb (Nat.le_refl _);clear hb BU P Q CU MU;have BU:=B';have P:=P';have Q:=Q';have CU:=C';have MU:=M';clear B' P' Q' C' M';have zP:w.heap.size<u1.heap.size:=P.out.1;have zQ:w.heap.size+1<u1.heap.size:=Q.out.1;have c0:=P.out.2 0 (by simp);have c1:=P.out.2 1 (by simp);have d0:=Q.out.2 0 (by simp);have d1:=Q.out.2 1 (by simp);have d2:=Q.out.2 2 (by simp);have d3:=Q.out.2 3 (by simp);have d4:=Q.out.2 4 (by simp);have d5:=Q.out.2 5 (by simp);have d6:=Q.out.2 6 (by simp);have d7:=Q.out.2 7 (by simp);have d8:=Q.out.2 8 (by simp);simp only[List.getD_eq_getElem?_getD,List.getElem?_cons_zero,List.getElem?_cons_succ,Option.getD_some]at c0 c1 d0 d1 d2 d3 d4 d5 d6 d7 d8;go_wp2_with fail;refine(La _ _ gR _ (rL rs) _ _ _ _ _ _ gH _ (hL hs) (aL hs) (cL hs) _ _ _ _ gO _ (kL []) (vL []) _ HS.out (fun i hi=>(HR.out.base i hi).1) MU.out).mono ?_;rintro e u2⟨rfl,hb⟩;rw[HMK.out];clear zP zQ c0 c1 d0 d1 d2 d3 d4 d5 d6 d7 d8;have B':Hid (Below w.heap.size w u2):=BU.out.trans (hb.mono BU.out.size);have P':Hid (Cl u2 w.heap.size [.slice (some ⟨bH,0,none⟩) hs.length cH,.slice (some ⟨bR,0,none⟩) 8 cR]):=P.out.below hb;have Q':Hid (Cl u2 (w.heap.size+1) [.slice (some ⟨gR,0,none⟩) rs.length rc,.bool false,.bool false,.bool false,.bool false,.slice (some ⟨gH,0,none⟩) hs.length hcp,.int .i64 0,.int .i64 0,.slice none 0 0]):=Q.out.below hb;have C':Hid (Ck u2 bH hs.length S bR 8 V):=CU.out.below hb;have M':Hid (Hf u2 (some ⟨gR,0,none⟩) rc gR rs.length (rL rs) (some ⟨gH,0,none⟩) hcp gH hs.length (hL hs) (aL hs) (cL hs) none 0 gO 0 (kL []) (vL [])):=MU.out.below hb (Nat.le_refl _);clear hb BU P Q CU MU
 have BU:=B';have P:=P';have Q:=Q';have CU:=C';have MU:=M';clear B' P' Q' C' M';have zP:w.heap.size<u2.heap.size:=P.out.1;have zQ:w.heap.size+1<u2.heap.size:=Q.out.1;have c0:=P.out.2 0 (by simp);have c1:=P.out.2 1 (by simp);have d0:=Q.out.2 0 (by simp);have d1:=Q.out.2 1 (by simp);have d2:=Q.out.2 2 (by simp);have d3:=Q.out.2 3 (by simp);have d4:=Q.out.2 4 (by simp);have d5:=Q.out.2 5 (by simp);have d6:=Q.out.2 6 (by simp);have d7:=Q.out.2 7 (by simp);have d8:=Q.out.2 8 (by simp);simp only[List.getD_eq_getElem?_getD,List.getElem?_cons_zero,List.getElem?_cons_succ,Option.getD_some]at c0 c1 d0 d1 d2 d3 d4 d5 d6 d7 d8;go_wp2_with fail;refine(Oz bH cH hs.length S gH hcp (fun i=>(hL hs i).put (aL hs i) (cL hs i)) _ (by omega) (fun i hi=>?k1) CU.out.h MU.out.heaps (fun i hi=>?k2)).mono ?_
 case k1=>have k:=(HF.out.h.heap i hi).1;have:=HS.out.data i hi;exact this
 case k2=>exact⟨(HF.out.h.heap i hi).1.symm,(HF.out.h.heap i hi).2.symm⟩
 rintro e u3⟨rfl,hb⟩;clear zP zQ c0 c1 d0 d1 d2 d3 d4 d5 d6 d7 d8;have B':Hid (Below w.heap.size w u3):=BU.out.trans (hb.mono BU.out.size);have P':Hid (Cl u3 w.heap.size [.slice (some ⟨bH,0,none⟩) hs.length cH,.slice (some ⟨bR,0,none⟩) 8 cR]):=P.out.below hb;have Q':Hid (Cl u3 (w.heap.size+1) [.slice (some ⟨gR,0,none⟩) rs.length rc,.bool false,.bool false,.bool false,.bool false,.slice (some ⟨gH,0,none⟩) hs.length hcp,.int .i64 0,.int .i64 0,.slice none 0 0]):=Q.out.below hb;have C':Hid (Ck u3 bH hs.length S bR 8 V):=CU.out.below hb;have M':Hid (Hf u3 (some ⟨gR,0,none⟩) rc gR rs.length (rL rs) (some ⟨gH,0,none⟩) hcp gH hs.length (hL hs) (aL hs) (cL hs) none 0 gO 0 (kL []) (vL [])):=MU.out.below hb (Nat.le_refl _);clear hb BU P Q CU MU;have BU:=B';have P:=P';have Q:=Q';have CU:=C';have MU:=M';clear B' P' Q' C' M';have zP:w.heap.size<u3.heap.size:=P.out.1;have zQ:w.heap.size+1<u3.heap.size:=Q.out.1;have c0:=P.out.2 0 (by simp);have c1:=P.out.2 1 (by simp);have d0:=Q.out.2 0 (by simp);have d1:=Q.out.2 1 (by simp);have d2:=Q.out.2 2 (by simp);have d3:=Q.out.2 3 (by simp);have d4:=Q.out.2 4 (by simp);have d5:=Q.out.2 5 (by simp);have d6:=Q.out.2 6 (by simp);have d7:=Q.out.2 7 (by simp);have d8:=Q.out.2 8 (by simp);simp only[List.getD_eq_getElem?_getD,List.getElem?_cons_zero,List.getElem?_cons_succ,Option.getD_some]at c0 c1 d0 d1 d2 d3 d4 d5 d6 d7 d8;rw[HNR.out]at d0;go_wp2_with fail;refine(RO bR cR V gR rc (rL rs) _ _ _ _ gH hcp hs.length (fun i=>(hL hs i).put (aL hs i) (cL hs i)) _ _ _ _ _ _ (fun i hi=>gv.2 (HGV.out i hi)) (fun i hi=>HR.out.base i hi) CU.out.r (by have k:=MU.out.regs;rw[HNR.out]at k;exact k) MU.out.heaps (fun i hi=>sK (HGV.out i hi) (HF.out.rg i hi))).mono ?_;rintro e u4⟨rfl,hb⟩;have B4:Hid (Below w.heap.size w u4):=BU.out.trans (hb.mono BU.out.size);clear hb zP zQ c0 c1 d0 d1 d2 d3 d4 d5 d6 d7 d8;go_wp2;go_ret;exact⟨rfl,B4.out⟩
abbrev WI(G:SG)(F:FS)(M:MV):Prop:=Ls G.nH G.S F.V F.z F.c M
section
variable{G:SG}{L:Nat->SV}{fu:Int}{F B C:FS}{M:MV}{r r' r1 r2:RV}
end
def Lh(M M':MV):Prop:=M'.nH=M.nH/\∀i,(M'.Hp i).base=(M.Hp i).base/\(M'.Hp i).len=(M.Hp i).len/\(M'.Hp i).wr=(M.Hp i).wr/\((M.Hp i).wr=false->(M'.Hp i).dat=(M.Hp i).dat)
theorem Lh.refl(M:MV):Lh M M:=⟨rfl,fun _=>⟨rfl,rfl,rfl,fun _=>rfl⟩⟩
theorem Lh.trans{A B C:MV}(h:Lh A B)(k:Lh B C):Lh A C:=⟨k.1.trans h.1,fun i=>by
 obtain⟨b,c,a,d⟩:=h.2 i;obtain⟨e,j,l,m⟩:=k.2 i;exact⟨e.trans b,j.trans c,l.trans a,fun q=>(m (a.trans q)).trans (d q)⟩⟩
theorem Lh.poke{M:MV}{h:Nat}(a:(M.Hp h).wr=true)(j:Nat)(u:Int):Lh M (M.poke h j u):=⟨rfl,fun i=>by
 unfold MV.poke;by_cases e:i=h
 ·subst e;simp[a]
 ·simp[e]⟩
theorem Lh.pokeN{M:MV}{h:Nat}(a:(M.Hp h).wr=true)(o:Nat)(v:Int):∀k,Lh M (M.pokeN h o v k)
 |0=>Lh.refl M
 |k+1=>(Lh.pokeN a o v k).trans (Lh.poke (by rw[((Lh.pokeN a o v k).2 h).2.2.1];exact a) _ _)
def yQ(M:MV):Ia->Prop
 |.inl (M',_)=>Lh M M'
 |.inr M'=>Lh M M'
theorem jU(s:Bool)(c:Nat)(A:Int)(d h:Nat)(M:MV)(j:Int):yQ M (Cm s c A d h M j):=by
 unfold Cm;by_cases b:M.nH<=h
 ·rw[if_pos b];exact Lh.refl M
 rw[if_neg b];by_cases a:(lies (M.Hp h).base A c (M.Hp h).len&&(!s||(M.Hp h).wr))=true
 ·rw[if_pos a]
  cases s with
  |true=>
   have e:(M.Hp h).wr=true:=by simpa using(Bool.and_eq_true_iff.1 a).2
   exact(show Lh M (M.see 1 A)from Lh.refl M).trans (Lh.pokeN (M:=M.see 1 A) e _ _ _)
  |false=>exact Lh.refl M
 ·rw[if_neg a];exact Lh.refl M
theorem pR(j d a b h:Nat)(c:Int)(M:MV)(e:Int):yQ M (exec j d a b h c M e):=by
 unfold exec;split;all_goals first
  |exact jU _ _ _ _ _ _ _
  |exact Lh.refl M
  |(unfold Da;split<;>(try split)<;>exact Lh.refl M)
  |(split<;>exact Lh.refl M)
end Go.Proofs.YtcjnmdgomocpgaaGreatDoor
