import Derived.Test.YtkckomianknjdaaGreatOfCoreF
import Derived.Test.YtkckomianknjdaaGreatOfMachCopy2
import Derived.Test.YtkckomianknjdaaGreatOfDrawFlat
import Derived.Laws.IdiomStrings
set_option maxHeartbeats 8000000
set_option maxRecDepth 20000
namespace Go.Proofs.YtkckomianknjdaaGreat
open Go.RowKit
def iX(n:Nat)(R:Nat->Int):List UInt8:=(List.range n).map fun i=>UInt8.ofNat (R i).toNat
theorem Uk(n:Nat)(R:Nat->Int):(iX n R).length=n:=by simp[iX]
theorem RD(w:World)(b n c:Nat)(R:Nat->Int)(d:∀i,i<n->0<=R i/\R i<=255)(h:BZ w b n (EH .u8 R)):
 (convert 22 9 (Vs b n c)).run Tryz.prog w=.ok (.string ⟨(iX n R).toArray⟩) w:=by
 have:=run_convert_bytes_back (P:=Tryz.prog) w 22 9 5 ⟨b,0,none⟩ c (iX n R) Tryz.underlying22 Tryz.underlying5 Tryz.underlying9 (fun j a=>by
  rw[Uk]at a;have e:(⟨b,0,none⟩:Addr).add j=⟨b,j,none⟩:=by unfold Addr.add;split<;>simp_all
  rw[e,h.cell a];have k:=d j a;simp only[EH,iX,List.getElem_map,List.getElem_range];congr 2
  simp;omega)
 rw[Uk]at this;exact this
theorem QA(b n c a j:Nat)(R:Nat->Int)(w:World)(d:∀i,i<n->0<=R i/\R i<=255)(h:BZ w b n (EH .u8 R))(k:BZ w a n (EH .u8 R)):
 Calls Tryz.prog 27 #[Vs b n c,Vs a n j] w fun e p=>e=.returned (.bool true)/\p=w:=by
 have m:=RD w b n c R d h;have o:=RD w a n j R d k;obtain⟨s,l⟩:∃s:ByteArray,(⟨(iX n R).toArray⟩:ByteArray)=s:=⟨_,rfl⟩
 rw[l]at m o;clear h k d l;go_enter Tryz.func27,Tryz.ntmps27;go_wp2;go_ret;exact⟨congrArg (fun q:Bool=>Ending.returned (.bool q)) AY,rfl⟩
theorem TV(x:Option Addr)(b n c:Nat)(s:Option Addr)(j D:Nat)(K V:Nat->Int)(w:World)(z:n<=1048576)(B:0<n->x=some ⟨b,0,none⟩)(m:0<n->s=some ⟨j,0,none⟩)(h:BZ w b (n*2) (CR K V))(r:BZ w j (n*2) (CR K V)):
 Calls Tryz.prog 28 #[.slice x n c,.slice s n D] w fun e M=>e=.returned (.bool true)/\Below w.heap.size w M:=by
 have y:=h.lt;have l:=r.lt;have u:=hxy h;have d:=hxy r;have C:=hxy B;have q:=hxy m;clear h r B m;go_enter Tryz.func28,Tryz.ntmps28;go_wp2;go_loopw [5](fun i wr=>∃k:Nat,k<=n/\i=Vi k/\Bw w wr)(fun i _=>n-(intOf i).toNat)
 case atStart=>exact⟨0,Nat.zero_le _,rfl,Below.refl _ _⟩
 case round=>
  obtain⟨k,N,rfl,a⟩:=hrel;have o:=hxy a;by_cases I:k<n
  ·obtain rfl:x=some ⟨b,0,none⟩:=C.out AB
   obtain rfl:s=some ⟨j,0,none⟩:=q.out AB;have E:=(a.cell (p:=Va b (k*2)) y).trans ((u.cell (i:=k*2+0) AB).trans (congrArg some (Ml K V k)));have F:=(a.cell (p:=Va b (k*2+1)) y).trans ((u.cell (i:=k*2+1) AB).trans (congrArg some (QX K V k)));have J:=(a.cell (p:=Va j (k*2)) l).trans ((d.cell (i:=k*2+0) AB).trans (congrArg some (Ml K V k)));have L:=(a.cell (p:=Va j (k*2+1)) l).trans ((d.cell (i:=k*2+1) AB).trans (congrArg some (QX K V k)));have A:(k:Int)<(n:Int):=AB;go_wp2_with fail;go_quiet(fail);clear E F J L;go_wp2;go_roundw
   case rel=>exact⟨k+1,AB,by go_num,o.trans (below_drewN Al _)⟩
   case measure=>simp[intOf];omega
  ·go_wp2
   go_ret;exact⟨rfl,a⟩
theorem LC(xR:Option Addr)(yR bR s:Nat)(R:Nat->Int)(z c I U:Bool)(xH:Option Addr)(yH O r:Nat)(n:Nat->Bj)(hA:Nat->Option Addr)(hC:Nat->Nat)(pc X:Int)(xO:Option Addr)(yO bO J:Nat)(K V:Nat->Int)
 (D:Option Addr)(N Y:Nat)(C:Option Addr)(E d:Nat)(ar:Nat->Option Addr)(Z:Nat->Nat)(aa:Int)(L:Option Addr)(M ak:Nat)(w:World)
 (lR:s<=1048576)(lH:r<=1048576)(lO:J<=1048576)(hl:∀i,i<r->1<=(n i).len/\∀j,j<(n i).len->0<=(n i).dat j/\(n i).dat j<=255)
 (h:FN w xR yR bR s R xH yH O r n hA hC xO yO bO J K V)(h':FN w D N Y s R C E d r n ar Z L M ak J K V):
 Calls Tryz.prog 7 #[.agg #[.slice xR s yR,.bool z,.bool c,.bool I,.bool U,.slice xH r yH,.int .i64 pc,.int .i64 X,.slice xO J yO],.agg #[.slice D s N,.bool z,.bool c,.bool I,.bool U,.slice C r E,.int .i64 aa,.int .i64 X,.slice L J M]] w fun e b=>e=.returned (.bool true)/\Below w.heap.size w b:=by
 have H:=hxy h;have H':=hxy h';have HL:=hxy hl;clear h h' hl;go_enter Tryz.func7,Tryz.ntmps7;go_upto_region 1 with fail;obtain⟨u,hu,am,l,m⟩:∃y,(w.alloc (.cells #[.slice xR s yR,.bool z,.bool c,.bool I,.bool U,.slice xH r yH,.int .i64 pc,.int .i64 X,.slice xO J yO] 28)).alloc (.cells #[.slice D s N,.bool z,.bool c,.bool I,.bool U,.slice C r E,.int .i64 aa,.int .i64 X,.slice L J M] 28)=y/\Bw w y/\Cl y w.heap.size [.slice xR s yR,.bool z,.bool c,.bool I,.bool U,.slice xH r yH,.int .i64 pc,.int .i64 X,.slice xO J yO]/\Cl y (w.heap.size+1) [.slice D s N,.bool z,.bool c,.bool I,.bool U,.slice C r E,.int .i64 aa,.int .i64 X,.slice L J M]:=
  ⟨_,rfl,(Ah).alloc AY _,Cl.new.below (Ah),by
    have h:=Cl.new (w:=w.alloc (.cells #[.slice xR s yR,.bool z,.bool c,.bool I,.bool U,.slice xH r yH,.int .i64 pc,.int .i64 X,.slice xO J yO] 28)) (vs:=#[.slice D s N,.bool z,.bool c,.bool I,.bool U,.slice C r E,.int .i64 aa,.int .i64 X,.slice L J M]) (t:=28);simpa using h⟩
 rw[hu];obtain⟨q,hq⟩:=BG (w.heap.size);have HQ:=hxy hq;rw[hq]at l m⊢;have CA:=hxy l;have CB:=hxy m;have BU:=hxy am;have a0:u.cell? ⟨q,0,none⟩=some (.slice xR s yR):=l.2 0 AY;have a1:u.cell? ⟨q,1,none⟩=some (.bool z):=l.2 1 AY;have a2:u.cell? ⟨q,2,none⟩=some (.bool c):=l.2 2 AY;have a3:u.cell? ⟨q,3,none⟩=some (.bool I):=l.2 3 AY;have a4:u.cell? ⟨q,4,none⟩=some (.bool U):=l.2 4 AY;have a5:u.cell? ⟨q,5,none⟩=some (.slice xH r yH):=l.2 5 AY;have a7:u.cell? ⟨q,7,none⟩=some (.int .i64 X):=l.2 7 AY;have a8:u.cell? ⟨q,8,none⟩=some (.slice xO J yO):=l.2 8 AY;have b0:u.cell? ⟨q+1,0,none⟩=some (.slice D s N):=m.2 0 AY;have b1:u.cell? ⟨q+1,1,none⟩=some (.bool z):=m.2 1 AY;have b2:u.cell? ⟨q+1,2,none⟩=some (.bool c):=m.2 2 AY;have b3:u.cell? ⟨q+1,3,none⟩=some (.bool I):=m.2 3 AY;have b4:u.cell? ⟨q+1,4,none⟩=some (.bool U):=m.2 4 AY;have b5:u.cell? ⟨q+1,5,none⟩=some (.slice C r E):=m.2 5 AY;have b7:u.cell? ⟨q+1,7,none⟩=some (.int .i64 X):=m.2 7 AY;have b8:u.cell? ⟨q+1,8,none⟩=some (.slice L J M):=m.2 8 AY;have qz:=l.1;have ac:=m.1;clear hu am l m hq;go_wp2_with fail;clear a1 a2 a3 a4 a7 b1 b2 b3 b4 b7;go_loopw [5](fun i wr=>∃k:Nat,k<=s/\i=.int .i64 k/\Bw u wr)(fun i _=>s-(intOf i).toNat)
 case atStart=>exact⟨0,Nat.zero_le _,rfl,Below.refl _ _⟩
 case round=>
  obtain⟨k,hk,rfl,o⟩:=hrel;have ai:=hxy o;have BW:=hxy (BU.trans (o.mono BU.size));have c0:=(o.cell (p:=⟨q,0,none⟩) qz).trans a0;have d0:=(o.cell (p:=⟨q+1,0,none⟩) ac).trans b0;have c5:=(o.cell (p:=⟨q,5,none⟩) qz).trans a5;have d5:=(o.cell (p:=⟨q+1,5,none⟩) ac).trans b5;have c8:=(o.cell (p:=⟨q,8,none⟩) qz).trans a8;have d8:=(o.cell (p:=⟨q+1,8,none⟩) ac).trans b8;have qw:q<wr.heap.size:=Nat.lt_of_lt_of_le qz o.size;have ab:q+1<wr.heap.size:=Nat.lt_of_lt_of_le ac o.size;by_cases an:k<s
  ·obtain rfl:xR=some ⟨bR,0,none⟩:=H.eR.some AB
   obtain rfl:D=some ⟨Y,0,none⟩:=H'.eR.some AB;have ao:(k:Int)<(s:Int):=AB;have g0:wr.cell? ⟨bR,k,none⟩=some (.int .u64 (R k)):=(BW.cell (p:=⟨bR,k,none⟩) H.regs.lt).trans (H.regs.cell an);have g1:wr.cell? ⟨Y,k,none⟩=some (.int .u64 (R k)):=(BW.cell (p:=⟨Y,k,none⟩) H'.regs.lt).trans (H'.regs.cell an);go_wp2_with fail;go_quiet(fail);clear g0 g1 c0 d0 c5 d5 c8 d8;go_wp2;go_roundw
   case rel=>exact⟨k+1,AB,by go_num,ai.trans (below_drewN Al _)⟩
   case measure=>simp[intOf];omega
  ·have ao:¬(k:Int)<(s:Int):=AB
   go_wp2_with fail;clear a0 a5 a8 b0 b5 b8;generalize wr=u at ai BW c0 d0 c5 d5 c8 d8 qw ab⊢;go_loopw [6](fun i wr=>∃k:Nat,k<=r/\i=.int .i64 k/\Bw u wr)(fun i _=>r-(intOf i).toNat)
   case atStart=>exact⟨0,Nat.zero_le _,rfl,Below.refl _ _⟩
   case round=>
    obtain⟨a,aw,rfl,B⟩:=hrel;have ah:=hxy B;have x:=hxy (BW.trans (B.mono BW.size));have m5:=(B.cell (p:=⟨q,5,none⟩) qw).trans c5;have n5:=(B.cell (p:=⟨q+1,5,none⟩) ab).trans d5;have m8:=(B.cell (p:=⟨q,8,none⟩) qw).trans c8;have n8:=(B.cell (p:=⟨q+1,8,none⟩) ab).trans d8;have qx:q<wr.heap.size:=Nat.lt_of_lt_of_le qw B.size;have av:q+1<wr.heap.size:=Nat.lt_of_lt_of_le ab B.size;by_cases F:a<r
    ·obtain rfl:xH=some ⟨O,0,none⟩:=H.eH.some AB
     obtain rfl:C=some ⟨d,0,none⟩:=H'.eH.some AB;have ae:(a:Int)<(r:Int):=AB;have ax:=(HL a F).1;obtain⟨bD,eD,aD⟩:=(H.below x (Nat.le_refl _)).data a F AB;obtain⟨ad,al,aj⟩:=(H'.below x (Nat.le_refl _)).data a F AB;have AD:=hxy aD;have ag:=hxy aj;have Q:=(H.below x (Nat.le_refl _)).heaps;have A:=(H'.below x (Nat.le_refl _)).heaps;have I:=Q.lt;have af:=A.lt;have g0:wr.cell? ⟨O,a*3,none⟩=some (.int .u64 (n a).base):=(Q.cell (i:=a*3+0) AB).trans (congrArg some (FR _ a));have g1:wr.cell? ⟨O,a*3+1,none⟩=some (.bool (n a).wr):=(Q.cell (i:=a*3+1) AB).trans (congrArg some (FQ _ a));have g2:wr.cell? ⟨O,a*3+2,none⟩=some (.slice (some ⟨bD,0,none⟩) (n a).len (hC a)):=(Q.cell (i:=a*3+2) AB).trans ((congrArg some (Ef _ a)).trans (by rw[<-eD];rfl));have h0:wr.cell? ⟨d,a*3,none⟩=some (.int .u64 (n a).base):=(A.cell (i:=a*3+0) AB).trans (congrArg some (FR _ a));have h1:wr.cell? ⟨d,a*3+1,none⟩=some (.bool (n a).wr):=(A.cell (i:=a*3+1) AB).trans (congrArg some (FQ _ a));have h2:wr.cell? ⟨d,a*3+2,none⟩=some (.slice (some ⟨ad,0,none⟩) (n a).len (Z a)):=(A.cell (i:=a*3+2) AB).trans ((congrArg some (Ef _ a)).trans (by rw[<-al];rfl));have r5:∀b:World,Bw wr b->b.cell? ⟨q,5,none⟩=some (.slice (some ⟨O,0,none⟩) r yH):=fun b h=>(h.cell (p:=⟨q,5,none⟩) qx).trans m5
     have r6:∀b:World,Bw wr b->b.cell? ⟨q+1,5,none⟩=some (.slice (some ⟨d,0,none⟩) r E):=fun b h=>(h.cell (p:=⟨q+1,5,none⟩) av).trans n5
     have r0:∀b:World,Bw wr b->b.cell? ⟨O,a*3,none⟩=some (.int .u64 (n a).base):=fun b h=>(h.cell (p:=⟨O,a*3,none⟩) I).trans g0
     have r1:∀b:World,Bw wr b->b.cell? ⟨O,a*3+1,none⟩=some (.bool (n a).wr):=fun b h=>(h.cell (p:=⟨O,a*3+1,none⟩) I).trans g1
     have r2:∀b:World,Bw wr b->b.cell? ⟨O,a*3+2,none⟩=some (.slice (some ⟨bD,0,none⟩) (n a).len (hC a)):=fun b h=>(h.cell (p:=⟨O,a*3+2,none⟩) I).trans g2
     have s0:∀b:World,Bw wr b->b.cell? ⟨d,a*3,none⟩=some (.int .u64 (n a).base):=fun b h=>(h.cell (p:=⟨d,a*3,none⟩) af).trans h0
     have s1:∀b:World,Bw wr b->b.cell? ⟨d,a*3+1,none⟩=some (.bool (n a).wr):=fun b h=>(h.cell (p:=⟨d,a*3+1,none⟩) af).trans h1
     have s2:∀b:World,Bw wr b->b.cell? ⟨d,a*3+2,none⟩=some (.slice (some ⟨ad,0,none⟩) (n a).len (Z a)):=fun b h=>(h.cell (p:=⟨d,a*3+2,none⟩) af).trans h2
     have e1:((n a).base !=(n a).base)=false:=AY;have e2:((n a).wr !=(n a).wr)=false:=AY;clear eD al aD aj Q A;go_upto_region 11 with fail;clear m5 n5 m8 n8 g0 g1 g2 h0 h1 h2 c0 d0;have hS:Bw wr wr.drew:=Al.drew;refine wp_region_held_drew (S:=fun b=>Bw wr b) Ab hS (fun _=>?_);refine lM [0,1,2,3,4,5,6,7,8,9,10,11,12,13,14,15,16,17,18,19,20,21,22,23,24,25,26,27,28,29,30,31,32,33,34,35,36,37,38,39,40] ?_;refine AO 41 rfl (fun KK hK=>?_);go_simp;refine(QA bD (n a).len (hC a) ad (Z a) (n a).dat _ (HL a F).2 (AD.below hS AD.lt) (ag.below hS ag.lt)).mono ?_;rintro e w3⟨rfl,ap⟩;rw[ap];go_wp2_with fail;refine hK.out _ _ hS (fun _=>?_);clear hK KK ap;refine lM [42,43] ?_;refine wpAnyH_done Ab ?_ _;clear r5 r6 r0 r1 r2 s0 s1 s2 hS;go_wp2;go_roundw
     case rel=>exact⟨a+1,AB,by go_num,ah.trans (Al.drew.mono ah.size)⟩
     case measure=>simp[intOf];omega
    ·have ae:¬(a:Int)<(r:Int):=AB
     go_wp2_with fail;refine(TV _ bO J _ _ ak _ K V wr lO H.eO.some H'.eO.some (H.below x (Nat.le_refl _)).obs (H'.below x (Nat.le_refl _)).obs).mono ?_;rintro e w3⟨rfl,au⟩;go_wp2;go_ret;exact⟨rfl,x.trans (au.mono x.size)⟩
end Go.Proofs.YtkckomianknjdaaGreat
