import Derived.Test.YtcjnmdgomocpgaaGreatDoorOfSfMath
set_option maxHeartbeats 8000000
set_option maxRecDepth 20000
namespace Go.Proofs.YtcjnmdgomocpgaaGreatDoor
open Go.RowKit
theorem O7(k:Int)(s:Bool)(m h o l x:Int)(y:Option Addr)(S C:Nat)(z c Q E:Bool)(B d n:Nat)(p:Nat->Bv)(U X:Int)(u:Option Addr)(R A:Nat)(w:World)(b:Cy ⟨k,s,m,h,o,l⟩ n=true)
 (a:Ak w B (n*3) (CO p)):
 Ks 111 #[.agg #[Vi k,.bool s,Vi m,Vi h,Vi o,Vi l],.int .u64 x,.agg #[.slice y S C,.bool z,.bool c,.bool Q,.bool E,Vs B n d,Vi U,Vi X,.slice u R A]] w fun e Y=>e=.returned (.bool (Ku ⟨k,s,m,h,o,l⟩ x p))/\Below w.heap.size w Y:=by
 have Z:=a.lt;by_cases q:k=0
 ·subst q
  simp only[Cy,if_true,decide_eq_true_eq]at b;obtain⟨M,N,_⟩:=b;clear a;by_cases r:m= -1
  ·subst r
   go_enter Tryz.func111,Tryz.ntmps111;go_wp2;go_ret;exact⟨AY (by simp[Ku]),(Ai).alloc AX _⟩
  ·have O:0<=m:=AB
   go_enter Tryz.func111,Tryz.ntmps111;go_wp2;go_ret;exact⟨AY (by simp[Ku,r]),(Ai).alloc AX _⟩
 ·simp only[Cy,q,if_false,decide_eq_true_eq]at b
  obtain⟨rfl,rfl,rfl,F,I,L,K,J⟩:=b;obtain⟨j,rfl⟩:∃j:Nat,h=(j:Int):=⟨h.toNat,AB⟩
  have hj:j<n:=AB;have D:=((a.cell (i:=j*3+0) AB).trans (congrArg some (Iz _ j)))
  simp only[Nat.add_zero]at D;clear a;go_enter Tryz.func111,Tryz.ntmps111;go_wp2;all_goals
   go_ret;refine⟨AY ?_,?_⟩
   ·simp only[Ku,Int.toNat_natCast,if_neg (show¬(1:Int)=0 by omega),IntKind.wrap_i64]
    simp only[wrap64,IntKind.wrap_u64]at *;simp;omega
   ·exact(Ai).alloc AX _
theorem KY(d cV:Nat)(V:Nat->VV)(o cR:Nat)(R:Nat->Int)(z c hz hc:Bool)(B r n:Nat)(L:Nat->Bv)(pc st:Int)(M:Option Addr)(nO Z:Nat)(w:World)(hg:∀i,i<8->Cy (V i) n=true)
 (h1:Ak w d (8*6) (vF V))(h2:Ak w o 8 (EU .u64 R))(A:Ak w B (n*3) (CO L))(C:∀i,i<8->Ku (V i) (R i) L=true):
 Ks 71 #[Vs d 8 cV,.agg #[Vs o 8 cR,.bool z,.bool c,.bool hz,.bool hc,Vs B n r,Vi pc,Vi st,.slice M nO Z]] w fun e a=>e=.returned (.bool true)/\Below w.heap.size w a:=by
 have u:=h1.lt;have l2:=h2.lt;have x:=hxy h1;have H2:=hxy h2;have HC:=hxy A;have HG:=hxy hg;have J:=hxy C;clear h1 h2 A hg C;go_enter Tryz.func71,Tryz.ntmps71;go_wp2;go_loopw [5](fun i wr=>∃k:Nat,k<=8/\i=Vi k/\Bw w wr/\Hid (Cl wr w.heap.size [Vs o 8 cR,.bool z,.bool c,.bool hz,.bool hc,Vs B n r,Vi pc,Vi st,.slice M nO Z]))(fun i _=>8-(intOf i).toNat)
 case atStart=>exact⟨0,Nat.zero_le _,rfl,Ai,Cl.new⟩
 case round=>
  obtain⟨k,hk,rfl,b,l⟩:=hrel;have q:=hxy b;by_cases D:k<8
  ·have N:=(b.cell (p:=Va d (k*6)) u).trans (x.cell (i:=k*6+0) AB |>.trans (congrArg some (Bz V k 0 AB)))
   have O:=(b.cell (p:=Va d (k*6+1)) u).trans (x.cell (i:=k*6+1) AB |>.trans (congrArg some (Bz V k 1 AB)));have Q:=(b.cell (p:=Va d (k*6+2)) u).trans (x.cell (i:=k*6+2) AB |>.trans (congrArg some (Bz V k 2 AB)));have U:=(b.cell (p:=Va d (k*6+3)) u).trans (x.cell (i:=k*6+3) AB |>.trans (congrArg some (Bz V k 3 AB)));have X:=(b.cell (p:=Va d (k*6+4)) u).trans (x.cell (i:=k*6+4) AB |>.trans (congrArg some (Bz V k 4 AB)));have Y:=(b.cell (p:=Va d (k*6+5)) u).trans (x.cell (i:=k*6+5) AB |>.trans (congrArg some (Bz V k 5 AB)));have r0:=(b.cell (p:=Va o k) l2).trans (H2.cell (i:=k) AB);simp only[vC,EU]at N O Q U X Y r0;have j:d<wr.heap.size:=Ey u b.size;have aa:o<wr.heap.size:=Ey l2 b.size;clear b;go_upto_region 4 with fail;have v0:Cb wr d (k*6) (Vi (V k).k):=fun a h=>(h.cell (p:=Va d (k*6)) j).trans N
   have v1:Cb wr d (k*6+1) (.bool (V k).s):=fun a h=>(h.cell (p:=Va d (k*6+1)) j).trans O
   have v2:Cb wr d (k*6+2) (Vi (V k).m):=fun a h=>(h.cell (p:=Va d (k*6+2)) j).trans Q
   have v3:Cb wr d (k*6+3) (Vi (V k).h):=fun a h=>(h.cell (p:=Va d (k*6+3)) j).trans U
   have v4:Cb wr d (k*6+4) (Vi (V k).lo):=fun a h=>(h.cell (p:=Va d (k*6+4)) j).trans X
   have v5:Cb wr d (k*6+5) (Vi (V k).hi):=fun a h=>(h.cell (p:=Va d (k*6+5)) j).trans Y
   have pr:Cb wr o k (.int .u64 (R k)):=fun a h=>(h.cell (p:=Va o k) aa).trans r0
   have p0:∀a,Bw wr a->a.cell? ⟨w.heap.size,0,none⟩=some (Vs o 8 cR):=fun a h=>(l.below h).2 0 AX
   have p1:∀a,Bw wr a->a.cell? ⟨w.heap.size,1,none⟩=some (.bool z):=fun a h=>(l.below h).2 1 AX
   have p2:∀a,Bw wr a->a.cell? ⟨w.heap.size,2,none⟩=some (.bool c):=fun a h=>(l.below h).2 2 AX
   have p3:∀a,Bw wr a->a.cell? ⟨w.heap.size,3,none⟩=some (.bool hz):=fun a h=>(l.below h).2 3 AX
   have p4:∀a,Bw wr a->a.cell? ⟨w.heap.size,4,none⟩=some (.bool hc):=fun a h=>(l.below h).2 4 AX
   have p5:∀a,Bw wr a->a.cell? ⟨w.heap.size,5,none⟩=some (Vs B n r):=fun a h=>(l.below h).2 5 AX
   have p6:∀a,Bw wr a->a.cell? ⟨w.heap.size,6,none⟩=some (Vi pc):=fun a h=>(l.below h).2 6 AX
   have p7:∀a,Bw wr a->a.cell? ⟨w.heap.size,7,none⟩=some (Vi st):=fun a h=>(l.below h).2 7 AX
   have p8:∀a,Bw wr a->a.cell? ⟨w.heap.size,8,none⟩=some (.slice M nO Z):=fun a h=>(l.below h).2 8 AX
   clear N O Q U X Y r0;refine wp_region_held_drew (S:=fun a=>Bw wr a) AV BJ.drew (fun _=>?_);refine EX [0,1,2,3,4,5,6,7,8,9] ?_;refine AO 10 rfl (fun KK hK=>?_);go_simp;have I:=hxy q.drew;refine(O7 _ _ _ _ _ _ _ _ _ _ _ _ _ _ _ _ _ L _ _ _ _ _ _ (HG k D) (HC.below I HC.lt)).mono ?_;rintro e w2⟨rfl,y⟩;have E:Bw wr w2:=(BJ.drew).trans y;have F:=hxy (q.trans (E.mono q.size));have K:=hxy (l.below E);clear y;go_wp2_with fail;refine hK.out _ _ E (fun _=>?_);clear hK KK;try go_frame
   refine AU 11 ?_;refine wpAnyH_done AV ?_ _;clear p0 p1 p2 p3 p4 p5 p6 p7 p8 pr v0 v1 v2 v3 v4 v5 E;rw[J.out k D];go_wp2;go_roundw
   case rel=>exact⟨k+1,AB,by go_num,F,K⟩
   case measure=>simp[intOf];omega
  ·obtain rfl:k=8:=AB
   go_wp2;go_ret;exact⟨rfl,b⟩
theorem Jq(l A b:Nat)(S:Nat->HS)(J:Option Addr)(Z M:Nat)(I:Option Addr)(Y L:Nat)(z c R Q:Bool)(B m:Nat)(j:Nat->Bv)(pc st:Int)(F:Option Addr)(X K:Nat)(w:World)(lH:b<=1048576)(d:∀i,i<b->(j i).len<=1048576)(u:Ak w l (b*3) (Ur S))(h:Ak w B (b*3) (CO j))(q:∀i,i<b->(S i).size=((j i).len:Int)/\(S i).w=(j i).wr):
 Ks 70 #[.agg #[Vs l b A,.slice J Z M],.agg #[.slice I Y L,.bool z,.bool c,.bool R,.bool Q,Vs B b m,Vi pc,Vi st,.slice F X K]] w fun e w'=>e=.returned (.bool true)/\Below w.heap.size w w':=by
 have n:=u.lt;have C:=h.lt;have x:=hxy u;have y:=hxy h;have E:=hxy d;have s:=hxy q;clear u h d q;go_enter Tryz.func70,Tryz.ntmps70;go_wp2;go_loopw [5](fun i wr=>∃k:Nat,k<=b/\i=Vi k/\Bw w wr/\w.heap.size+1<wr.heap.size/\wr.cell? ⟨w.heap.size,0,none⟩=some (Vs l b A)/\wr.cell? ⟨w.heap.size+1,5,none⟩=some (Vs B b m))(fun i _=>b-(intOf i).toNat)
 case atStart=>exact⟨0,Nat.zero_le _,rfl,(Ai).alloc AX _,AX,by simp[go_sem],by simp[go_sem]⟩
 case round=>
  obtain⟨k,hk,rfl,a,U,x0,x5⟩:=hrel;by_cases o:k<b
  ·have s0:=(a.cell (p:=Va l (k*3)) n).trans (x.cell (i:=k*3+0) AB |>.trans (congrArg some (Fb S k 0 AB)))
   have s2:=(a.cell (p:=Va l (k*3+2)) n).trans (x.cell (i:=k*3+2) AB |>.trans (congrArg some (Fb S k 2 AB)));have N:=(a.cell (p:=Va B (k*3+1)) C).trans ((y.cell (i:=k*3+1) AB).trans (congrArg some (JE _ k)));have O:=(a.cell (p:=Va B (k*3+2)) C).trans ((y.cell (i:=k*3+2) AB).trans (congrArg some (GD _ k)));simp only[wm]at s0 s2 N O;have r:=hxy a;have hl:=E.out k o;obtain⟨hs,D⟩:=s.out k o;clear a;go_upto_region 6 with fail;go_quiet(fail);cases hp:(j k).wr<;>rw[hp]at D<;>(try rw[hp])<;>(try rw[D])<;>go_wp2
   all_goals
    go_roundw
    case rel=>exact⟨k+1,AB,by go_num,below_drewN r _,by go_simp,by go_simp,by go_simp⟩
    case measure=>simp[intOf];omega
  ·obtain rfl:k=b:=AB
   go_wp2;go_ret;exact⟨rfl,a⟩
theorem Mf(n x A:Nat)(S:Nat->HS)(o y:Nat)(V:Nat->VV)(ra:Option Addr)(m:Nat)(ha:Option Addr)(b:Nat)(c:List Int)(a:List HD)(B:Nat)(w:World)(n1:1<=A)(n4:A<=4)(ag:Db A S 8 V=true)(ae:∀i,i<8->GV (V i) A)(ai:∀i,i<A->1<=(S i).size/\(S i).size<=4096)(h1:Ck w n A S o 8 V)(hf:OH ⟨.slice ra c.length m,false,false,false,false,.slice ha a.length b,0,0,.slice none 0 0,c,a,[]⟩ A S V)(hm:ML B ⟨.slice ra c.length m,false,false,false,false,.slice ha a.length b,0,0,.slice none 0 0,c,a,[]⟩ w):
 Ks 33 #[.agg #[Vs n A x,Vs o 8 y],.agg #[.slice ra c.length m,.bool false,.bool false,.bool false,.bool false,.slice ha a.length b,Vi 0,Vi 0,.slice none 0 0]] w fun e w'=>e=.returned (.bool true)/\Below w.heap.size w w':=by
 obtain⟨l,j,gO,hg⟩:=ML.g (rs:=c) (hs:=a) (os:=[]) hm h1.h;have al:a.length=A:=hf.nh;have af:c.length=8:=hf.nr;have aa:=hm.range;have ah:=hm.small (by show c.length<=8;omega) (by show a.length<=8;omega) (by show 0<=2;omega);have ad:∀i,i<a.length->0<=(a.getD i hd0).base:=fun i q=>(aa.base i q).1
 have Z:=UL hf n4 ad ai;have eR:ra=some ⟨l,0,none⟩:=hg.eR.some AB;have eH:ha=some ⟨j,0,none⟩:=hg.eH.some AB;subst eR eH al;dsimp only at Z;have HS:Hid (Small c.length a.length (hL a) 0):=ah;have HR:Hid (Lf (rL c) a.length (hL a)):=aa;have aj:Hid _:=Z;have HF:Hid (OH ⟨Vs l c.length m,false,false,false,false,Vs j a.length b,0,0,.slice none 0 0,c,a,[]⟩ a.length S V):=hf;have ak:Hid (Db a.length S 8 V=true):=ag;have ab:Hid (∀i,i<8->GV (V i) a.length):=ae;have C0:Hid (Ck w n a.length S o 8 V):=h1;have M0:Hid (Hf w (some ⟨l,0,none⟩) m l c.length (rL c) (some ⟨j,0,none⟩) b j a.length (hL a) (aL a) (cL a) none 0 gO 0 (kL []) (vL [])):=hg;clear hg ah aa Z hf ag ae h1 hm ad ai;have ac:Hid (c.length=8):=af;clear af;go_enter Tryz.func33,Tryz.ntmps33;go_wp2_with fail;obtain⟨u0,hv,d,p0,q0⟩:∃v,(w.alloc (.cells #[Vs n a.length x,Vs o 8 y] 26)).alloc (.cells #[Vs l c.length m,.bool false,.bool false,.bool false,.bool false,Vs j a.length b,Vi 0,Vi 0,.slice none 0 0] 39)=v/\Bw w v/\Cl v w.heap.size [Vs n a.length x,Vs o 8 y]/\Cl v (w.heap.size+1) [Vs l c.length m,.bool false,.bool false,.bool false,.bool false,Vs j a.length b,Vi 0,Vi 0,.slice none 0 0]:=by
  refine⟨_,rfl,(BJ.alloc BQ _).alloc AX _,(Cl.new).below (BJ.alloc BQ _),?_⟩;have h:=Cl.new (w:=w.alloc (.cells #[Vs n a.length x,Vs o 8 y] 26)) (vs:=#[Vs l c.length m,.bool false,.bool false,.bool false,.bool false,Vs j a.length b,Vi 0,Vi 0,.slice none 0 0]) (t:=39);simp only[World.size_alloc]at h;exact h
 rw[hv];have p:Hid (Bw w u0):=d;have P:Hid (Cl u0 w.heap.size [Vs n a.length x,Vs o 8 y]):=p0;have Q:Hid (Cl u0 (w.heap.size+1) [Vs l c.length m,.bool false,.bool false,.bool false,.bool false,Vs j a.length b,Vi 0,Vi 0,.slice none 0 0]):=q0;have u:Hid (Ck u0 n a.length S o 8 V):=C0.below d;have s:Hid (Hf u0 (some ⟨l,0,none⟩) m l c.length (rL c) (some ⟨j,0,none⟩) b j a.length (hL a) (aL a) (cL a) none 0 gO 0 (kL []) (vL [])):=M0.below d BQ;clear hv d p0 q0 C0 M0;refine(NC _ _ _ S _ _ _ V _ AB AB u).mono ?_;rintro e u1⟨rfl,d⟩;rw[ak.out];have C:Hid (Bw w u1):=p.trans (d.mono p.size);have F:Hid (Cl u1 w.heap.size [Vs n a.length x,Vs o 8 y]):=P.below d;have I:Hid (Cl u1 (w.heap.size+1) [Vs l c.length m,.bool false,.bool false,.bool false,.bool false,Vs j a.length b,Vi 0,Vi 0,.slice none 0 0]):=Q.below d;have D:Hid (Ck u1 n a.length S o 8 V):=u.below d;have E:Hid (Hf u1 (some ⟨l,0,none⟩) m l c.length (rL c) (some ⟨j,0,none⟩) b j a.length (hL a) (aL a) (cL a) none 0 gO 0 (kL []) (vL [])):=s.below d BQ;clear d p P Q u s;have p:=C;have P:=F;have Q:=I;have u:=D;have s:=E;clear C F I D E;have zP:w.heap.size<u1.heap.size:=P.1;have zQ:w.heap.size+1<u1.heap.size:=Q.1;have J:=P.2 0 AX;have K:=P.2 1 AX;have z:=Q.2 0 AX;have L:=Q.2 1 AX;have M:=Q.2 2 AX;have N:=Q.2 3 AX;have O:=Q.2 4 AX;have R:=Q.2 5 AX;have U:=Q.2 6 AX;have X:=Q.2 7 AX;have Y:=Q.2 8 AX;simp only[KJ,List.getElem?_cons_zero,List.getElem?_cons_succ,Option.getD_some]at J K z L M N O R U X Y;go_wp2_with fail;refine(JK _ _ l _ _ _ _ _ (rL c) _ _ j _ (hL a) (aL a) (cL a) _ _ _ _ gO _ (kL []) (vL []) _ HS (fun i q=>HR.base i q) s).mono ?_;rintro e u2⟨rfl,d⟩;rw[aj.out];clear zP zQ J K z L M N O R U X Y;have C:Hid (Bw w u2):=p.trans (d.mono p.size);have F:Hid (Cl u2 w.heap.size [Vs n a.length x,Vs o 8 y]):=P.below d;have I:Hid (Cl u2 (w.heap.size+1) [Vs l c.length m,.bool false,.bool false,.bool false,.bool false,Vs j a.length b,Vi 0,Vi 0,.slice none 0 0]):=Q.below d;have D:Hid (Ck u2 n a.length S o 8 V):=u.below d;have E:Hid (Hf u2 (some ⟨l,0,none⟩) m l c.length (rL c) (some ⟨j,0,none⟩) b j a.length (hL a) (aL a) (cL a) none 0 gO 0 (kL []) (vL [])):=s.below d BQ;clear d p P Q u s;have p:=C;have P:=F;have Q:=I;have u:=D;have s:=E;clear C F I D E;have zP:w.heap.size<u2.heap.size:=P.1;have zQ:w.heap.size+1<u2.heap.size:=Q.1;have J:=P.2 0 AX;have K:=P.2 1 AX;have z:=Q.2 0 AX;have L:=Q.2 1 AX;have M:=Q.2 2 AX;have N:=Q.2 3 AX;have O:=Q.2 4 AX;have R:=Q.2 5 AX;have U:=Q.2 6 AX;have X:=Q.2 7 AX;have Y:=Q.2 8 AX;simp only[KJ,List.getElem?_cons_zero,List.getElem?_cons_succ,Option.getD_some]at J K z L M N O R U X Y;go_wp2_with fail;refine(Jq n x a.length S _ _ _ _ _ _ _ _ _ _ j b (fun i=>(hL a i).put (aL a i) (cL a i)) _ _ _ _ _ _ AB (fun i q=>?k1) u.h s.heaps (fun i q=>?k2)).mono ?_
 case k1=>have k:=(HF.h.heap i q).1;have:=HS.data i q;exact this
 case k2=>exact⟨(HF.h.heap i q).1.symm,(HF.h.heap i q).2.symm⟩
 rintro e u3⟨rfl,d⟩;clear zP zQ J K z L M N O R U X Y;have C:Hid (Bw w u3):=p.trans (d.mono p.size);have F:Hid (Cl u3 w.heap.size [Vs n a.length x,Vs o 8 y]):=P.below d;have I:Hid (Cl u3 (w.heap.size+1) [Vs l c.length m,.bool false,.bool false,.bool false,.bool false,Vs j a.length b,Vi 0,Vi 0,.slice none 0 0]):=Q.below d;have D:Hid (Ck u3 n a.length S o 8 V):=u.below d;have E:Hid (Hf u3 (some ⟨l,0,none⟩) m l c.length (rL c) (some ⟨j,0,none⟩) b j a.length (hL a) (aL a) (cL a) none 0 gO 0 (kL []) (vL [])):=s.below d BQ;clear d p P Q u s;have p:=C;have P:=F;have Q:=I;have u:=D;have s:=E;clear C F I D E;have zP:w.heap.size<u3.heap.size:=P.1;have zQ:w.heap.size+1<u3.heap.size:=Q.1;have J:=P.2 0 AX;have K:=P.2 1 AX;have z:=Q.2 0 AX;have L:=Q.2 1 AX;have M:=Q.2 2 AX;have N:=Q.2 3 AX;have O:=Q.2 4 AX;have R:=Q.2 5 AX;have U:=Q.2 6 AX;have X:=Q.2 7 AX;have Y:=Q.2 8 AX;simp only[KJ,List.getElem?_cons_zero,List.getElem?_cons_succ,Option.getD_some]at J K z L M N O R U X Y;rw[ac.out]at z;go_wp2_with fail;refine(KY o y V l m (rL c) _ _ _ _ j b a.length (fun i=>(hL a i).put (aL a i) (cL a i)) _ _ _ _ _ _ (fun i q=>gv.2 (ab i q)) u.r (by have k:=s.regs;rw[ac.out]at k;exact k) s.heaps (fun i q=>sK (ab i q) (HF.rg i q))).mono ?_;rintro e u4⟨rfl,d⟩;have B4:Hid (Bw w u4):=p.trans (d.mono p.size);clear d zP zQ J K z L M N O R U X Y;go_wp2;go_ret;exact⟨rfl,B4⟩
def Lb(h:Bv):ByteArray:=strOfNums ((List.range h.len).map h.dat)
theorem Z6(h:Bv)(i:Nat)(a:i<h.len):((List.range h.len).map h.dat).getD i 0=h.dat i:=by simp[List.getD,a]
theorem Dn(h:Bv)(b a:Nat)(w:World)(d:Ak w b h.len (EU .u8 h.dat)):(convert 22 9 (Vs b h.len a)).run Tryz.prog w=.ok (.string (Lb h)) w:=
 run_convert_bytes_arg w 22 5 Tryz.underlying22 Tryz.underlying5 b 0 h.len a _ AX (fun i c=>by rw[Z6 h i c,Nat.zero_add];exact d.cell c) 9 Tryz.underlying9
theorem GK(w:World)(a b:Array Value)(t:TypeId):Cl ((w.alloc (.cells a t)).alloc (.cells b t)).drew w.heap.size a.toList/\Cl ((w.alloc (.cells a t)).alloc (.cells b t)).drew (w.heap.size+1) b.toList/\Below w.heap.size w ((w.alloc (.cells a t)).alloc (.cells b t)).drew:=by
 refine⟨(Cl.new).below (Ai).drew,?_,((Ai).alloc AX _).drew⟩;have h:=(Cl.new (w:=w.alloc (.cells a t)) (vs:=b) (t:=t)).below BJ.drew;simp only[World.size_alloc]at h;exact h
def RH(w:World)(B n:Nat)(H:Nat->Bv)(a:Nat->Option Addr)(s:Nat->Nat):Prop:=Ak w B (n*3) (CO fun i=>(H i).put (a i) (s i))/\∀i,i<n->∃b,a i=some ⟨b,0,none⟩/\Ak w b (H i).len (EU .u8 (H i).dat)
theorem RH.below{w j:World}{N B n:Nat}{H:Nat->Bv}{a:Nat->Option Addr}{s:Nat->Nat}(h:RH w B n H a s)(d:Below N w j)(c:w.heap.size<=N):RH j B n H a s:=
 ⟨h.1.below d (Ey h.1.lt c),fun i k=>by
   obtain⟨b,e,r⟩:=h.2 i k;exact⟨b,e,r.below d (Ey r.lt c)⟩⟩
def ZL(h1 h2:Bv):Prop:=h1.len=h2.len/\∀j,j<h1.len->h1.dat j=h2.dat j
theorem OL{a b:Bv}(h:ZL a b):Lb a=Lb b:=by
 unfold Lb;rw[<-h.1];congr 1
 exact List.map_congr_left fun j c=>h.2 j (List.mem_range.1 c)
def Zm(S:Nat->HS)(n:Nat)(H1 H2:Nat->Bv):Prop:=∀i,i<n->(H1 i).base=(H2 i).base/\((S i).s=false->ZL (H1 i) (H2 i))
theorem KN(a b:Bv)(c d k l:Nat)(w:World)(h:Ak w c a.len (EU .u8 a.dat))(j:Ak w d b.len (EU .u8 b.dat))(m:Lb a=Lb b):
 Ks 78 #[Vs c a.len k,Vs d b.len l] w fun e o=>e=.returned (.bool true)/\o=w:=by
 have p:=Dn a c k w h;have n:=Dn b d l w j;rw[<-m]at n;clear h j;go_enter Tryz.func78,Tryz.ntmps78;go_wp2;go_ret;exact⟨rfl,rfl⟩
theorem Hy(h cV:Nat)(V:Nat->VV)(b m:Nat)(X:Nat->Int)(z1 c1 J E:Bool)(o:Option Addr)(L x:Nat)(Q S:Int)(r:Option Addr)(N z:Nat)(c n:Nat)(Y:Nat->Int)(z2 c2 K F:Bool)(q:Option Addr)(M y:Nat)(R U:Int)(u:Option Addr)(O A:Nat)(w:World)
 (B:Ak w h (8*6) (vF V))(C:Ak w b 8 (EU .u64 X))(D:Ak w c 8 (EU .u64 Y))(Z:∀i,i<8->(V i).s=false->X i=Y i):
 Ks 37 #[Vs h 8 cV,.agg #[Vs b 8 m,.bool z1,.bool c1,.bool J,.bool E,.slice o L x,Vi Q,Vi S,.slice r N z],.agg #[Vs c 8 n,.bool z2,.bool c2,.bool K,.bool F,.slice q M y,Vi R,Vi U,.slice u O A]] w fun e w'=>e=.returned (.bool true)/\Below w.heap.size w w':=by
 have l:=B.lt;have l2:=C.lt;have l3:=D.lt;have j:=hxy B;have H2:=hxy C;have H3:=hxy D;have HQ:=hxy Z;clear B C D Z;go_enter Tryz.func37,Tryz.ntmps37;go_wp2;go_loopw [11](fun i wr=>∃k:Nat,k<=8/\i=Vi k/\Bw w wr/\w.heap.size+1<wr.heap.size/\wr.cell? ⟨w.heap.size,0,none⟩=some (Vs b 8 m)/\wr.cell? ⟨w.heap.size+1,0,none⟩=some (Vs c 8 n))(fun i _=>8-(intOf i).toNat)
 case atStart=>exact⟨0,Nat.zero_le _,rfl,(Ai).alloc AX _,AX,by simp[go_sem],by simp[go_sem]⟩
 case round=>
  obtain⟨k,hk,rfl,a,ab,x0,y0⟩:=hrel;have d:=hxy a;by_cases I:k<8
  ·have g0:=(a.cell (p:=Va h (k*6)) l).trans (j.cell (i:=k*6+0) AB |>.trans (congrArg some (Bz V k 0 AB)))
   have g1:=(a.cell (p:=Va h (k*6+1)) l).trans (j.cell (i:=k*6+1) AB |>.trans (congrArg some (Bz V k 1 AB)));have g2:=(a.cell (p:=Va h (k*6+2)) l).trans (j.cell (i:=k*6+2) AB |>.trans (congrArg some (Bz V k 2 AB)));have g3:=(a.cell (p:=Va h (k*6+3)) l).trans (j.cell (i:=k*6+3) AB |>.trans (congrArg some (Bz V k 3 AB)));have g4:=(a.cell (p:=Va h (k*6+4)) l).trans (j.cell (i:=k*6+4) AB |>.trans (congrArg some (Bz V k 4 AB)));have g5:=(a.cell (p:=Va h (k*6+5)) l).trans (j.cell (i:=k*6+5) AB |>.trans (congrArg some (Bz V k 5 AB)));have r1:=(a.cell (p:=Va b k) l2).trans (H2.cell (i:=k) AB);have r2:=(a.cell (p:=Va c k) l3).trans (H3.cell (i:=k) AB);simp only[vC,EU]at g0 g1 g2 g3 g4 g5 r1 r2;have ac:b<wr.heap.size:=Ey l2 a.size;have ad:c<wr.heap.size:=Ey l3 a.size;have aa:w.heap.size<wr.heap.size:=AB;clear a;go_upto_region 4 with fail;cases hs:(V k).s with
   |true=>
    go_quiet(fail);go_wp2;go_roundw
    case rel=>exact⟨k+1,AB,by go_num,below_drewN (d.alloc d.size _) _,by go_simp,by go_simp,by go_simp⟩
    case measure=>simp[intOf];omega
   |false=>
    have he:=HQ.out k I hs;rw[<-he]at r2;go_quiet(fail);go_wp2;go_roundw
    case rel=>exact⟨k+1,AB,by go_num,below_drewN (d.alloc d.size _) _,by go_simp,by go_simp,by go_simp⟩
    case measure=>simp[intOf];omega
  ·obtain rfl:k=8:=AB
   go_wp2;go_ret;exact⟨rfl,a⟩
theorem Gd(L cS n:Nat)(S:Nat->HS)(ac:Option Addr)(av ag:Nat)(z1 c1 ao u:Bool)(A q1:Nat)(m:Nat->Bv)(a1:Nat->Option Addr)(C:Nat->Nat)(ax aA:Int)(aa:Option Addr)(ar ae:Nat)(ad:Option Addr)(aw ah:Nat)(z2 c2 ap x:Bool)(B q2:Nat)(o:Nat->Bv)(a2:Nat->Option Addr)(D:Nat->Nat)(ay aB:Int)(ab:Option Addr)(au af:Nat)(w:World)(ln:n<=8)
 (h1:Ak w L (n*3) (Ur S))(h2:RH w A n m a1 C)(h3:RH w B n o a2 D)(hq:Zm S n m o):
 Ks 38 #[Vs L n cS,.agg #[.slice ac av ag,.bool z1,.bool c1,.bool ao,.bool u,Vs A n q1,Vi ax,Vi aA,.slice aa ar ae],.agg #[.slice ad aw ah,.bool z2,.bool c2,.bool ap,.bool x,Vs B n q2,Vi ay,Vi aB,.slice ab au af]] w fun e b=>e=.returned (.bool true)/\Below w.heap.size w b:=by
 have l1:=h1.lt;have l2:=h2.1.lt;have l3:=h3.1.lt;have X:=hxy h1;have A2:=hxy h2;have A3:=hxy h3;have HQ:=hxy hq;clear h1 h2 h3 hq;go_enter Tryz.func38,Tryz.ntmps38;go_wp2;go_loopw [13](fun i wr=>∃k:Nat,k<=n/\i=Vi k/\Bw w wr/\w.heap.size+1<wr.heap.size/\wr.cell? ⟨w.heap.size,5,none⟩=some (Vs A n q1)/\wr.cell? ⟨w.heap.size+1,5,none⟩=some (Vs B n q2))(fun i _=>n-(intOf i).toNat)
 case atStart=>exact⟨0,Nat.zero_le _,rfl,(Ai).alloc AX _,AX,by simp[go_sem],by simp[go_sem]⟩
 case round=>
  obtain⟨k,hk,rfl,j,U,x0,y0⟩:=hrel;have F:=hxy j;by_cases E:k<n
  ·have s0:=(j.cell (p:=Va L (k*3)) l1).trans (X.cell (i:=k*3+0) AB |>.trans (congrArg some (Fb S k 0 AB)))
   have C:=(j.cell (p:=Va L (k*3+1)) l1).trans (X.cell (i:=k*3+1) AB |>.trans (congrArg some (Fb S k 1 AB)));have D:=(j.cell (p:=Va L (k*3+2)) l1).trans (X.cell (i:=k*3+2) AB |>.trans (congrArg some (Fb S k 2 AB)));simp only[wm]at s0 C D;obtain⟨x1,M,I⟩:=A2.2 k E;obtain⟨x2,N,J⟩:=A3.2 k E;have R1:=hxy I;have R2:=hxy J;have X1:=hxy M;have X2:=hxy N;clear I J M N;go_upto_region 4 with fail;obtain⟨d,O,r,hx⟩:∃v,wr.alloc (.cells #[Vi (S k).size,.bool (S k).s,.bool (S k).w] 45)=v/\Bw wr v/\Cl v wr.heap.size [Vi (S k).size,.bool (S k).s,.bool (S k).w]:=⟨_,rfl,Ai,Cl.new⟩
   rw[O];have HX:=hxy hx;have y:=hxy (F.trans (r.mono F.size));have Q:w.heap.size+1<d.heap.size:=Ey U r.size;have x5:=(r.cell (p:=⟨w.heap.size,5,none⟩) (by simp;omega)).trans x0;have y5:=(r.cell (p:=⟨w.heap.size+1,5,none⟩) U).trans y0;clear O hx r x0 y0 s0 C D j;have p5:∀b,Bw d b->b.cell? ⟨w.heap.size,5,none⟩=some (Vs A n q1):=fun b h=>(h.cell (p:=⟨w.heap.size,5,none⟩) (by simp;omega)).trans x5
   have q5:∀b,Bw d b->b.cell? ⟨w.heap.size+1,5,none⟩=some (Vs B n q2):=fun b h=>(h.cell (p:=⟨w.heap.size+1,5,none⟩) Q).trans y5
   have Y:Hid (RH d A n m a1 C):=A2.below y BQ;have Z:Hid (RH d B n o a2 D):=A3.below y BQ;have ai:Cb d A (k*3) (.int .u64 (m k).base):=fun b h=>((Y.below h BQ).1.cell (i:=k*3+0) AB).trans (congrArg some (Iz _ k))
   have aj:Cb d A (k*3+1) (.bool (m k).wr):=fun b h=>((Y.below h BQ).1.cell (i:=k*3+1) AB).trans (congrArg some (JE _ k))
   have ak:Cb d A (k*3+2) (Vs x1 (m k).len (C k)):=fun b h=>((Y.below h BQ).1.cell (i:=k*3+2) AB).trans (congrArg some ((GD _ k).trans (by show Value.slice (a1 k) _ _=_;rw[X1.out];rfl)))
   have al:Cb d B (k*3) (.int .u64 (o k).base):=fun b h=>((Z.below h BQ).1.cell (i:=k*3+0) AB).trans (congrArg some (Iz _ k))
   have am:Cb d B (k*3+1) (.bool (o k).wr):=fun b h=>((Z.below h BQ).1.cell (i:=k*3+1) AB).trans (congrArg some (JE _ k))
   have an:Cb d B (k*3+2) (Vs x2 (o k).len (D k)):=fun b h=>((Z.below h BQ).1.cell (i:=k*3+2) AB).trans (congrArg some ((GD _ k).trans (by show Value.slice (a2 k) _ _=_;rw[X2.out];rfl)))
   have aD:(k:Int)<n:=AB;go_cut [9,10](fun s9 az wx=>∃K q:Nat,s9=Vq K/\az=Vq q/\Bw d wx/\Cl wx K [.int .u64 (m k).base,.bool (m k).wr,Vs x1 (m k).len (C k)]/\Cl wx q [.int .u64 (o k).base,.bool (o k).wr,Vs x2 (o k).len (D k)])
   case first=>
    refine wp_region_held_drew (S:=fun b=>Bw d b) AV BJ.drew (fun _=>?_);refine EX [0,1,2,3,4,5,6,7,8,9] ?_;have aC:Bw d d.drew:=BJ.drew;refine wpAnyH_ready (rs:=[10,11]) AV AX ?_;refine AllReadyH.cons rfl (fun c a=>?_) (AllReadyH.cons rfl (fun c a=>?_) AllReadyH.nil)
    ·go_simp
     refine a.out _ _ ((Ai).drew) (fun _=>?_);clear a c;try go_frame
     refine AO 11 rfl (fun c a=>?_);go_simp;refine a.out _ _ ((Ai).alloc AX _).drew (fun _=>?_);clear a c;try go_frame
     refine AO 12 rfl (fun c a=>?_);go_simp;refine a.out _ _ ((Ai).alloc AX _).drew (fun _=>?_)
     clear a c
     try go_frame
     refine AO 13 rfl (fun c a=>?_)
     go_simp
     refine a.out _ _ ((Ai).alloc AX _).drew (fun _=>?_)
     clear a c
     refine wpAnyH_done AV ?_ _
     go_wp2_with fail
     go_meet
     exact⟨_,_,rfl,rfl,(GK _ _ _ _).2.2,(GK _ _ _ _).1,(GK _ _ _ _).2.1⟩
    ·go_simp
     refine a.out _ _ ((Ai).drew) (fun _=>?_)
     clear a c
     try go_frame
     refine AO 10 rfl (fun c a=>?_)
     go_simp
     refine a.out _ _ ((Ai).alloc AX _).drew (fun _=>?_)
     clear a c
     try go_frame
     refine AO 12 rfl (fun c a=>?_)
     go_simp
     refine a.out _ _ ((Ai).alloc AX _).drew (fun _=>?_)
     clear a c
     try go_frame
     refine AO 13 rfl (fun c a=>?_)
     go_simp
     refine a.out _ _ ((Ai).alloc AX _).drew (fun _=>?_)
     clear a c
     refine wpAnyH_done AV ?_ _
     go_wp2_with fail
     go_meet
     exact⟨_,_,rfl,rfl,(GK _ _ _ _).2.2,(GK _ _ _ _).2.1,(GK _ _ _ _).1⟩
   case rest=>
    obtain⟨K,q,rfl,rfl,l,u,x⟩:=hcut
    have z:=hxy (y.trans (l.mono y.size))
    have D1:=hxy (R1.below z R1.lt)
    have D2:=hxy (R2.below z R2.lt)
    have e0:wc.cell? (Va K 0)=some (.int .u64 (m k).base):=u.2 0 AX
    have e2:wc.cell? (Va K 2)=some (Vs x1 (m k).len (C k)):=u.2 2 AX
    have f0:wc.cell? (Va q 0)=some (.int .u64 (o k).base):=x.2 0 AX
    have f2:wc.cell? (Va q 2)=some (Vs x2 (o k).len (D k)):=x.2 2 AX
    have t1:wc.cell? ⟨wr.heap.size,1,none⟩=some (.bool (S k).s):=(HX.below l).2 1 AX
    have u5:=p5 _ l
    have v5:=q5 _ l
    have R:w.heap.size+1<wc.heap.size:=Ey Q l.size
    clear l u x p5 q5 x5 y5 ai aj ak al am an
    obtain⟨hb,hd⟩:=HQ.out k E
    rw[<-hb]at f0
    cases hs:(S k).s with
    |true=>
     rw[hs]at t1
     go_wp2
     go_roundw
     case rel=>exact⟨k+1,AB,by go_num,z,R,u5,v5⟩
     case measure=>simp[intOf];omega
    |false=>
     rw[hs]at t1
     have HD:=hxy (OL (hd hs))
     clear hd
     go_wp2_with fail
     refine(KN (m k) (o k) _ _ _ _ _ D1 D2 HD).mono ?_
     rintro e b⟨rfl,rfl⟩
     go_wp2
     go_roundw
     case rel=>exact⟨k+1,AB,by go_num,z,R,u5,v5⟩
     case measure=>simp[intOf];omega
  ·obtain rfl:k=n:=AB
   go_wp2
   go_ret
   exact⟨rfl,j⟩
end Go.Proofs.YtcjnmdgomocpgaaGreatDoor
