import Derived.Test.YtcjnmdgomocpgaaGreatDoorOfFlatAny
import Derived.Deep.RegionHeld3
import Derived.Deep.DeepCutAuto
set_option maxHeartbeats 16000000
set_option maxRecDepth 20000
namespace Go.Proofs.YtcjnmdgomocpgaaGreatDoor
open Go.RowKit
variable {c e x z:Int}{i u:Nat}
structure SV where
 k:Int
 op:Int
 d:Int
 a:Int
 b:Int
 imm:Int
 h:Int
 cond:Int
 thn:Int
 els:Int
 proc:Int
def Wz(c:Int):Bool:=decide (1<=c/\c<=4)
abbrev Lj(s:SV):Prop:=s.op=0/\s.d=0/\s.a=0/\s.b=0/\s.imm=0/\s.h=0
def BZ(s:SV)(procs:Int):Bool:=
 if s.k=1 then BF s.op s.d s.a s.b s.imm s.h&&decide (s.op<29/\s.cond=0/\s.thn=0/\s.els=0/\s.proc=0)
 else if s.k=2 then decide (Lj s/\1<=s.cond/\s.cond<=4/\0<=s.thn/\0<=s.els/\s.proc=0)
 else if s.k=3 then decide (Lj s/\1<=s.cond/\s.cond<=4/\0<=s.thn/\s.els=0/\s.proc=0)
 else if s.k=4 then decide (Lj s/\s.cond=0/\s.thn=0/\s.els=0/\0<=s.proc/\s.proc<procs)
 else false
theorem KX(c:Int)(w:World):Ks 149 #[Vi c] w fun e a=>e=.returned (.bool (Wz c))/\a=w:=by
 go_enter Tryz.func149,Tryz.ntmps149;go_wp2;all_goals(go_ret;refine⟨AY ?_,rfl⟩;simp[Wz]<;>omega)
theorem UC(n d a b k h cond m l c j:Int)(w:World):
 Ks 122 #[.agg #[Vi 1,Vi n,Vi d,Vi a,Vi b,Vi k,Vi h,Vi cond,Vi m,Vi l,Vi c],Vi j] w fun e z=>e=.returned (.bool (BZ ⟨1,n,d,a,b,k,h,cond,m,l,c⟩ j))/\Below w.heap.size w z:=by
 have s:Bw w (w.alloc (.cells #[Vi 1,Vi n,Vi d,Vi a,Vi b,Vi k,Vi h,Vi cond,Vi m,Vi l,Vi c] 117)):=Ai;have q:=hxy s;clear s;by_cases p:cond=0/\m=0/\l=0/\c=0
 ·obtain⟨rfl,rfl,rfl,rfl⟩:=p
  go_enter Tryz.func122,Tryz.ntmps122;go_wp2_with fail;refine(NM n d a b k h _).mono ?_;rintro e A⟨rfl,o⟩;obtain⟨y,_⟩:=Ud o;have p:=o.size;have r:=hxy (q.trans (o.mono q.size));simp only[World.size_alloc]at p y;clear o;cases hi:BF n d a b k h with
  |false=>
   go_wp2;go_ret;exact⟨AY (by simp[BZ,hi]),r⟩
  |true=>
   have u:=hxy hi;clear hi;go_wp2;go_ret;exact⟨AY (by simp[BZ,u.out]),r⟩
 ·have x:Hid (BZ ⟨1,n,d,a,b,k,h,cond,m,l,c⟩ j=false):=(by simp[BZ];intros;omega:BZ ⟨1,n,d,a,b,k,h,cond,m,l,c⟩ j=false)
  go_enter Tryz.func122,Tryz.ntmps122;go_wp2_with fail;all_goals first|(go_ret;exact⟨AY x.symm,Ai⟩)|(exfalso;omega)
theorem Uu(n d a b k h cond m l j c:Int)(w:World):
 Ks 122 #[.agg #[Vi 2,Vi n,Vi d,Vi a,Vi b,Vi k,Vi h,Vi cond,Vi m,Vi l,Vi j],Vi c] w fun e p=>e=.returned (.bool (BZ ⟨2,n,d,a,b,k,h,cond,m,l,j⟩ c))/\Below w.heap.size w p:=by
 by_cases o:n=0/\d=0/\a=0/\b=0/\k=0/\h=0/\j=0
 ·obtain⟨rfl,rfl,rfl,rfl,rfl,rfl,rfl⟩:=o
  go_enter Tryz.func122,Tryz.ntmps122;go_wp2_with(go_at_call 149;refine(KX _ _).mono ?_;rintro e p⟨rfl,rfl⟩);all_goals(go_ret;refine⟨AY ?_,Ai⟩;simp_all[BZ,Lj,Wz]<;>omega)
 ·have q:Hid (BZ ⟨2,n,d,a,b,k,h,cond,m,l,j⟩ c=false):=(by rw[Bool.eq_false_iff];intro r;apply o;simp[BZ]at r;omega:BZ ⟨2,n,d,a,b,k,h,cond,m,l,j⟩ c=false)
  go_enter Tryz.func122,Tryz.ntmps122;go_wp2_with fail;all_goals first|(go_ret;exact⟨AY q.symm,Ai⟩)|(exfalso;omega)
theorem Uw(n d a b l h cond m k j c:Int)(w:World):
 Ks 122 #[.agg #[Vi 3,Vi n,Vi d,Vi a,Vi b,Vi l,Vi h,Vi cond,Vi m,Vi k,Vi j],Vi c] w fun e p=>e=.returned (.bool (BZ ⟨3,n,d,a,b,l,h,cond,m,k,j⟩ c))/\Below w.heap.size w p:=by
 by_cases o:n=0/\d=0/\a=0/\b=0/\l=0/\h=0/\k=0/\j=0
 ·obtain⟨rfl,rfl,rfl,rfl,rfl,rfl,rfl,rfl⟩:=o
  go_enter Tryz.func122,Tryz.ntmps122;go_wp2_with(go_at_call 149;refine(KX _ _).mono ?_;rintro e p⟨rfl,rfl⟩);all_goals(go_ret;refine⟨AY ?_,Ai⟩;simp_all[BZ,Lj,Wz]<;>omega)
 ·have q:Hid (BZ ⟨3,n,d,a,b,l,h,cond,m,k,j⟩ c=false):=(by rw[Bool.eq_false_iff];intro r;apply o;simp[BZ]at r;omega:BZ ⟨3,n,d,a,b,l,h,cond,m,k,j⟩ c=false)
  go_enter Tryz.func122,Tryz.ntmps122;go_wp2_with fail;all_goals first|(go_ret;exact⟨AY q.symm,Ai⟩)|(exfalso;omega)
theorem Te(n d a b l h cond m k j c:Int)(w:World):
 Ks 122 #[.agg #[Vi 4,Vi n,Vi d,Vi a,Vi b,Vi l,Vi h,Vi cond,Vi m,Vi k,Vi j],Vi c] w fun e r=>e=.returned (.bool (BZ ⟨4,n,d,a,b,l,h,cond,m,k,j⟩ c))/\Below w.heap.size w r:=by
 by_cases o:n=0/\d=0/\a=0/\b=0/\l=0/\h=0/\cond=0/\m=0/\k=0
 ·obtain⟨rfl,rfl,rfl,rfl,rfl,rfl,rfl,rfl,rfl⟩:=o
  go_enter Tryz.func122,Tryz.ntmps122;go_wp2;all_goals(go_ret;refine⟨AY ?_,Ai⟩;simp_all[BZ,Lj]<;>omega)
 ·have p:Hid (BZ ⟨4,n,d,a,b,l,h,cond,m,k,j⟩ c=false):=(by rw[Bool.eq_false_iff];intro q;apply o;simp[BZ]at q;omega:BZ ⟨4,n,d,a,b,l,h,cond,m,k,j⟩ c=false)
  go_enter Tryz.func122,Tryz.ntmps122;go_wp2_with fail;all_goals first|(go_ret;exact⟨AY p.symm,Ai⟩)|(exfalso;omega)
theorem iM(n d a b k h cond m l j c:Int)(w:World):
 Ks 99 #[.agg #[Vi 2,Vi n,Vi d,Vi a,Vi b,Vi k,Vi h,Vi cond,Vi m,Vi l,Vi j],Vi c] w fun e p=>e=.returned (.bool (BZ ⟨2,n,d,a,b,k,h,cond,m,l,j⟩ c))/\Below w.heap.size w p:=by
 by_cases o:n=0/\d=0/\a=0/\b=0/\k=0/\h=0
 ·obtain⟨rfl,rfl,rfl,rfl,rfl,rfl⟩:=o
  go_enter Tryz.func99,Tryz.ntmps99;go_wp2_with(go_at_call 44;refine(Eu _ _ _ _).mono ?_;rintro e p⟨rfl,rfl⟩);all_goals(go_ret;refine⟨AY ?_,Ai⟩;simp_all[BZ,Lj,EM]<;>first|omega|rfl|(rw[Bool.eq_iff_iff];simp;omega))
 ·have q:Hid (BZ ⟨2,n,d,a,b,k,h,cond,m,l,j⟩ c=false):=(by rw[Bool.eq_false_iff];intro r;apply o;simp[BZ]at r;omega:BZ ⟨2,n,d,a,b,k,h,cond,m,l,j⟩ c=false)
  go_enter Tryz.func99,Tryz.ntmps99;go_wp2_with fail;all_goals first|(go_ret;exact⟨AY q.symm,Ai⟩)|(exfalso;omega)
theorem jo(n d a b k h cond m l j c:Int)(w:World):
 Ks 99 #[.agg #[Vi 3,Vi n,Vi d,Vi a,Vi b,Vi k,Vi h,Vi cond,Vi m,Vi l,Vi j],Vi c] w fun e p=>e=.returned (.bool (BZ ⟨3,n,d,a,b,k,h,cond,m,l,j⟩ c))/\Below w.heap.size w p:=by
 by_cases o:n=0/\d=0/\a=0/\b=0/\k=0/\h=0
 ·obtain⟨rfl,rfl,rfl,rfl,rfl,rfl⟩:=o
  go_enter Tryz.func99,Tryz.ntmps99;go_wp2_with(go_at_call 44;refine(Eu _ _ _ _).mono ?_;rintro e p⟨rfl,rfl⟩);all_goals(go_ret;refine⟨AY ?_,Ai⟩;simp_all[BZ,Lj,EM]<;>first|omega|rfl|(rw[Bool.eq_iff_iff];simp;omega))
 ·have q:Hid (BZ ⟨3,n,d,a,b,k,h,cond,m,l,j⟩ c=false):=(by rw[Bool.eq_false_iff];intro r;apply o;simp[BZ]at r;omega:BZ ⟨3,n,d,a,b,k,h,cond,m,l,j⟩ c=false)
  go_enter Tryz.func99,Tryz.ntmps99;go_wp2_with fail;all_goals first|(go_ret;exact⟨AY q.symm,Ai⟩)|(exfalso;omega)
theorem jB(n d a b k h cond m l j c:Int)(w:World)(s:0<=c)(u:c<=1048576):
 Ks 99 #[.agg #[Vi 4,Vi n,Vi d,Vi a,Vi b,Vi k,Vi h,Vi cond,Vi m,Vi l,Vi j],Vi c] w fun e p=>e=.returned (.bool (BZ ⟨4,n,d,a,b,k,h,cond,m,l,j⟩ c))/\Below w.heap.size w p:=by
 by_cases o:n=0/\d=0/\a=0/\b=0/\k=0/\h=0
 ·obtain⟨rfl,rfl,rfl,rfl,rfl,rfl⟩:=o
  go_enter Tryz.func99,Tryz.ntmps99;go_wp2_with(go_at_call 44;refine(Eu _ _ _ _).mono ?_;rintro e p⟨rfl,rfl⟩);all_goals(go_ret;refine⟨AY ?_,Ai⟩;simp_all[BZ,Lj,EM]<;>first|omega|rfl|(rw[Bool.eq_iff_iff];simp;omega))
 ·have q:Hid (BZ ⟨4,n,d,a,b,k,h,cond,m,l,j⟩ c=false):=(by rw[Bool.eq_false_iff];intro r;apply o;simp[BZ]at r;omega:BZ ⟨4,n,d,a,b,k,h,cond,m,l,j⟩ c=false)
  go_enter Tryz.func99,Tryz.ntmps99;go_wp2_with fail;all_goals first|(go_ret;exact⟨AY q.symm,Ai⟩)|(exfalso;omega)
theorem kQ(o d a b j h cond m k c l:Int)(w:World):
 Ks 99 #[.agg #[Vi 1,Vi o,Vi d,Vi a,Vi b,Vi j,Vi h,Vi cond,Vi m,Vi k,Vi c],Vi l] w fun e S=>e=.returned (.bool (BZ ⟨1,o,d,a,b,j,h,cond,m,k,c⟩ l))/\Below w.heap.size w S:=by
 have C:Bw w (w.alloc (.cells #[Vi 1,Vi o,Vi d,Vi a,Vi b,Vi j,Vi h,Vi cond,Vi m,Vi k,Vi c] 117)):=Ai;have s:=hxy C;clear C;obtain⟨Q,n⟩:=Au (BZ ⟨1,o,d,a,b,j,h,cond,m,k,c⟩ l);rw[n];have B:=hxy n;clear n;go_enter Tryz.func99,Tryz.ntmps99;go_upto_region 1 with fail;obtain⟨u,D,hcl⟩:∃x,w.alloc (.cells #[Vi 1,Vi o,Vi d,Vi a,Vi b,Vi j,Vi h,Vi cond,Vi m,Vi k,Vi c] 117)=x/\Cl x w.heap.size [Vi 1,Vi o,Vi d,Vi a,Vi b,Vi j,Vi h,Vi cond,Vi m,Vi k,Vi c]:=⟨_,rfl,Cl.new⟩
 rw[D]at s⊢;have p:=hxy hcl;clear D hcl;have F:u.cell? ⟨w.heap.size,0,none⟩=some (Vi 1):=p.2 0 AX;have I:u.cell? ⟨w.heap.size,1,none⟩=some (Vi o):=p.2 1 AX;have J:u.cell? ⟨w.heap.size,2,none⟩=some (Vi d):=p.2 2 AX;have K:u.cell? ⟨w.heap.size,3,none⟩=some (Vi a):=p.2 3 AX;have L:u.cell? ⟨w.heap.size,4,none⟩=some (Vi b):=p.2 4 AX;have M:u.cell? ⟨w.heap.size,5,none⟩=some (Vi j):=p.2 5 AX;have N:u.cell? ⟨w.heap.size,6,none⟩=some (Vi h):=p.2 6 AX;go_cut [0,5](fun _ R U=>(∃t:Bool,R=.bool t)/\U=u)
 case first=>
  go_wp2_with fail;all_goals(go_meet;exact⟨⟨_,rfl⟩,rfl⟩)
 case rest=>
  obtain⟨⟨t,rfl⟩,E⟩:=hcut;rw[E];clear E;go_wp2_with fail;refine(GX o d a b j h _).mono ?_;rintro e r⟨rfl,z⟩;have A:=hxy (s.trans (z.mono s.size));have q:=hxy (p.below z);clear z F I J K L M N;have X:r.cell? ⟨w.heap.size,1,none⟩=some (Vi o):=q.2 1 AX;have Y:r.cell? ⟨w.heap.size,7,none⟩=some (Vi cond):=q.2 7 AX;have Z:r.cell? ⟨w.heap.size,8,none⟩=some (Vi m):=q.2 8 AX;have f9:r.cell? ⟨w.heap.size,9,none⟩=some (Vi k):=q.2 9 AX;have O:r.cell? ⟨w.heap.size,10,none⟩=some (Vi c):=q.2 10 AX;cases hok:BF o d a b j h with
  |false=>
   go_wp2;go_ret;exact⟨AY (by rw[<-B.out];simp[BZ,hok]),A⟩
  |true=>
   have y:=hxy hok;clear hok;go_wp2;all_goals(go_ret;refine⟨AY ?_,A⟩;rw[<-B.out];simp_all[BZ,y.out]<;>first|omega|rfl)
theorem Wm(o d a b m h cond n l j c k:Int)(w:World)(p:k≠1)(q:k≠2)(r:k≠3)(s:k≠4):
 Ks 99 #[.agg #[Vi k,Vi o,Vi d,Vi a,Vi b,Vi m,Vi h,Vi cond,Vi n,Vi l,Vi j],Vi c] w fun e u=>e=.returned (.bool (BZ ⟨k,o,d,a,b,m,h,cond,n,l,j⟩ c))/\Below w.heap.size w u:=by
 have HS:Hid (BZ ⟨k,o,d,a,b,m,h,cond,n,l,j⟩ c=false):=(by simp[BZ,p,q,r,s]:BZ ⟨k,o,d,a,b,m,h,cond,n,l,j⟩ c=false)
 go_enter Tryz.func99,Tryz.ntmps99;go_wp2;all_goals first|(go_ret;exact⟨AY HS.symm,Ai⟩)|(exfalso;omega)
theorem WK(s:SV)(c:Int)(w:World)(x:0<=c)(y:c<=1048576):
 Ks 99 #[.agg #[Vi s.k,Vi s.op,Vi s.d,Vi s.a,Vi s.b,Vi s.imm,Vi s.h,Vi s.cond,Vi s.thn,Vi s.els,Vi s.proc],Vi c] w fun e z=>e=.returned (.bool (BZ s c))/\Below w.heap.size w z:=by
 obtain⟨k,o,d,a,b,m,h,cond,n,l,j⟩:=s;by_cases p:k=1
 ·subst p;exact kQ o d a b m h cond n l j c w
 ·by_cases q:k=2
  ·subst q;exact iM o d a b m h cond n l j c w
  ·by_cases r:k=3
   ·subst r;exact jo o d a b m h cond n l j c w
   ·by_cases u:k=4
    ·subst u;exact jB o d a b m h cond n l j c w x y
    ·exact Wm o d a b m h cond n l j c k w p q r u
theorem UU(o d a b m h cond n l j c k:Int)(w:World)(p:k≠1)(q:k≠2)(r:k≠3)(s:k≠4):
 Ks 122 #[.agg #[Vi k,Vi o,Vi d,Vi a,Vi b,Vi m,Vi h,Vi cond,Vi n,Vi l,Vi j],Vi c] w fun e u=>e=.returned (.bool (BZ ⟨k,o,d,a,b,m,h,cond,n,l,j⟩ c))/\Below w.heap.size w u:=by
 have HS:Hid (BZ ⟨k,o,d,a,b,m,h,cond,n,l,j⟩ c=false):=(by simp[BZ,p,q,r,s]:BZ ⟨k,o,d,a,b,m,h,cond,n,l,j⟩ c=false)
 go_enter Tryz.func122,Tryz.ntmps122;go_wp2;all_goals first|(go_ret;exact⟨AY HS.symm,Ai⟩)|(exfalso;omega)
theorem QE(s:SV)(c:Int)(w:World):
 Ks 122 #[.agg #[Vi s.k,Vi s.op,Vi s.d,Vi s.a,Vi s.b,Vi s.imm,Vi s.h,Vi s.cond,Vi s.thn,Vi s.els,Vi s.proc],Vi c] w fun e x=>e=.returned (.bool (BZ s c))/\Below w.heap.size w x:=by
 obtain⟨k,o,d,a,b,m,h,cond,n,l,j⟩:=s;by_cases p:k=1
 ·subst p;exact UC o d a b m h cond n l j c w
 ·by_cases q:k=2
  ·subst q;exact Uu o d a b m h cond n l j c w
  ·by_cases r:k=3
   ·subst r;exact Uw o d a b m h cond n l j c w
   ·by_cases u:k=4
    ·subst u;exact Te o d a b m h cond n l j c w
    ·exact UU o d a b m h cond n l j c k w p q r u
def yD(x:SV):Nat->Value
 |0=>Vi x.k
 |1=>Vi x.op
 |2=>Vi x.d
 |3=>Vi x.a
 |4=>Vi x.b
 |5=>Vi x.imm
 |6=>Vi x.h
 |7=>Vi x.cond
 |8=>Vi x.thn
 |9=>Vi x.els
 |_=>Vi x.proc
def JW(L:Nat->SV)(i:Nat):Value:=yD (L (i/11)) (i%11)
theorem Gg(L:Nat->SV)(k j:Nat)(a:j<11):JW L (k*11+j)=yD (L k) j:=by
 unfold JW;rw[show(k*11+j)/11=k by omega,show(k*11+j)%11=j by omega]
theorem Ij{w:World}{b n:Nat}{L:Nat->SV}(h:Ak w b (n*11) (JW L))(k:Nat)(c:k<n):w.cell? (Va b (k*11))=some (Vi (L k).k)/\w.cell? (Va b (k*11+1))=some (Vi (L k).op)/\w.cell? (Va b (k*11+2))=some (Vi (L k).d)/\w.cell? (Va b (k*11+3))=some (Vi (L k).a)/\w.cell? (Va b (k*11+4))=some (Vi (L k).b)/\w.cell? (Va b (k*11+5))=some (Vi (L k).imm)/\w.cell? (Va b (k*11+6))=some (Vi (L k).h)/\w.cell? (Va b (k*11+7))=some (Vi (L k).cond)/\w.cell? (Va b (k*11+8))=some (Vi (L k).thn)/\w.cell? (Va b (k*11+9))=some (Vi (L k).els)/\w.cell? (Va b (k*11+10))=some (Vi (L k).proc):=
 ⟨(h.cell (i:=k*11+0) AB).trans (congrArg some (Gg L k 0 AB)),(h.cell (i:=k*11+1) AB).trans (congrArg some (Gg L k 1 AB)),(h.cell (i:=k*11+2) AB).trans (congrArg some (Gg L k 2 AB)),(h.cell (i:=k*11+3) AB).trans (congrArg some (Gg L k 3 AB)),(h.cell (i:=k*11+4) AB).trans (congrArg some (Gg L k 4 AB)),(h.cell (i:=k*11+5) AB).trans (congrArg some (Gg L k 5 AB)),(h.cell (i:=k*11+6) AB).trans (congrArg some (Gg L k 6 AB)),(h.cell (i:=k*11+7) AB).trans (congrArg some (Gg L k 7 AB)),(h.cell (i:=k*11+8) AB).trans (congrArg some (Gg L k 8 AB)),(h.cell (i:=k*11+9) AB).trans (congrArg some (Gg L k 9 AB)),(h.cell (i:=k*11+10) AB).trans (congrArg some (Gg L k 10 AB))⟩
theorem Mx{w:World}{b:Nat}{s:SV}(h:Cl w b [Vi s.k,Vi s.op,Vi s.d,Vi s.a,Vi s.b,Vi s.imm,Vi s.h,Vi s.cond,Vi s.thn,Vi s.els,Vi s.proc]):w.cell? (Va b 0)=some (Vi s.k)/\w.cell? (Va b 1)=some (Vi s.op)/\w.cell? (Va b 2)=some (Vi s.d)/\w.cell? (Va b 3)=some (Vi s.a)/\w.cell? (Va b 4)=some (Vi s.b)/\w.cell? (Va b 5)=some (Vi s.imm)/\w.cell? (Va b 6)=some (Vi s.h)/\w.cell? (Va b 7)=some (Vi s.cond)/\w.cell? (Va b 8)=some (Vi s.thn)/\w.cell? (Va b 9)=some (Vi s.els)/\w.cell? (Va b 10)=some (Vi s.proc):=
 ⟨h.2 0 AX,h.2 1 AX,h.2 2 AX,h.2 3 AX,h.2 4 AX,h.2 5 AX,h.2 6 AX,h.2 7 AX,h.2 8 AX,h.2 9 AX,h.2 10 AX⟩
theorem Mk{s:SV}(h:BZ s z=true):0<=s.thn/\0<=s.els:=by
 unfold BZ at h;split at h
 ·simp at h;omega
 ·split at h
  ·simp at h;omega
  ·split at h
   ·simp at h;omega
   ·split at h
    ·simp at h;omega
    ·cases h
def DU(L:Nat->SV)(me procs deep:Int)(i te:Nat)(depth:Int):Int×Int:=
 if _h:i<te then
  if BZ (L i) procs=false then(2,i)
  else if hs:i+1+(L i).thn.toNat+(L i).els.toNat<=te then
   if((L i).k=2∨(L i).k=3)/\deep<=depth then(4,i)
   else if(L i).k=4/\(L i).proc<=me then(5,i)
   else if(DU L me procs deep (i+1) (i+1+(L i).thn.toNat) (depth+1)).1≠0 then DU L me procs deep (i+1) (i+1+(L i).thn.toNat) (depth+1)
   else if(DU L me procs deep (i+1+(L i).thn.toNat) (i+1+(L i).thn.toNat+(L i).els.toNat) (depth+1)).1≠0 then DU L me procs deep (i+1+(L i).thn.toNat) (i+1+(L i).thn.toNat+(L i).els.toNat) (depth+1)
   else DU L me procs deep (i+1+(L i).thn.toNat+(L i).els.toNat) te depth
  else(3,i)
 else(0,0)
theorem Li{L:Nat->SV}(h:¬i<u):DU L c z e i u x=(0,0):=by rw[DU,dif_neg h]
theorem Nb{L:Nat->SV}(h:i<u)(a:BZ (L i) z=false):DU L c z e i u x=(2,(i:Int)):=by rw[DU,dif_pos h,if_pos a]
theorem IC{L:Nat->SV}(h:i<u)(a:¬BZ (L i) z=false)(b:¬i+1+(L i).thn.toNat+(L i).els.toNat<=u):DU L c z e i u x=(3,(i:Int)):=by rw[DU,dif_pos h,if_neg a,dif_neg b]
theorem Jm{L:Nat->SV}(h:i<u)(a:¬BZ (L i) z=false)(b:i+1+(L i).thn.toNat+(L i).els.toNat<=u)(d:((L i).k=2∨(L i).k=3)/\e<=x):DU L c z e i u x=(4,(i:Int)):=by rw[DU,dif_pos h,if_neg a,dif_pos b,if_pos d]
theorem Na{L:Nat->SV}(h:i<u)(a:¬BZ (L i) z=false)(b:i+1+(L i).thn.toNat+(L i).els.toNat<=u)(d:¬(((L i).k=2∨(L i).k=3)/\e<=x))(j:(L i).k=4/\(L i).proc<=c):DU L c z e i u x=(5,(i:Int)):=by rw[DU,dif_pos h,if_neg a,dif_pos b,if_neg d,if_pos j]
theorem LM{L:Nat->SV}(h:i<u)(a:¬BZ (L i) z=false)(b:i+1+(L i).thn.toNat+(L i).els.toNat<=u)(d:¬(((L i).k=2∨(L i).k=3)/\e<=x))(j:¬((L i).k=4/\(L i).proc<=c)):DU L c z e i u x=if(DU L c z e (i+1) (i+1+(L i).thn.toNat) (x+1)).1≠0 then DU L c z e (i+1) (i+1+(L i).thn.toNat) (x+1)
 else if(DU L c z e (i+1+(L i).thn.toNat) (i+1+(L i).thn.toNat+(L i).els.toNat) (x+1)).1≠0 then DU L c z e (i+1+(L i).thn.toNat) (i+1+(L i).thn.toNat+(L i).els.toNat) (x+1)
 else DU L c z e (i+1+(L i).thn.toNat+(L i).els.toNat) u x:=by rw[DU,dif_pos h,if_neg a,dif_pos b,if_neg d,if_neg j]
theorem TM(b n ak:Nat)(L:Nat->SV)(C o p:Int)(ln:n<=1048576)(p0:0<=o)(p1:o<=1048576):∀(m i s:Nat)(l:Int)(w:World),s-i<=m->i<=s->s<=n->0<=l->l+m<=1099511627776->Ak w b (n*11) (JW L)->
 Ks 62 #[Vs b n ak,Vi (i:Int),Vi (s:Int),Vi C,Vi o,Vi l,Vi p] w fun e w'=>e=.returned (.tuple #[Vi (DU L C o p i s l).1,Vi (DU L C o p i s l).2])/\Below w.heap.size w w':=by
 intro m;induction m using Nat.strongRecOn with
 |ind m ih=>
 intro i s l w hm al av d0 d1 hA;have HA:=hxy hA;have IH:Hid _:=ih;clear hA ih;obtain⟨am,F⟩:=Au (DU L C o p i s l);rw[F];have HR:=hxy F;clear F;go_enter Tryz.func62,Tryz.ntmps62;go_wp2;go_loopw [16](fun iv wr=>∃j:Nat,i<=j/\j<=s/\iv=Vi (j:Int)/\Bw w wr/\DU L C o p j s l=am)(fun iv _=>s-(intOf iv).toNat)
 case atStart=>exact⟨i,BQ,al,rfl,Below.refl _ _,HR⟩
 case round=>
  obtain⟨j,ap,au,rfl,ae,ag⟩:=hrel;have K:=hxy ae;have y:=hxy ag;clear ae ag;by_cases A:j<s
  rotate_left
  ·have ah:¬(j:Int)<(s:Int):=AB
   go_wp2;exact mY (.tuple #[Vi 0,Vi 0]) (by simp[results,Tryz.results62,go_sem]) ⟨by rw[<-y.out,Li A],K⟩
  have ah:(j:Int)<(s:Int):=AB;have ar:(j:Int)<(n:Int):=AB;have ai:=hxy (HA.below K HA.lt);have s0:=Ij ai.out j AB;go_wp2_with fail;obtain⟨u,hu,ad,af⟩:∃v,wr.alloc (.cells #[Vi (L j).k,Vi (L j).op,Vi (L j).d,Vi (L j).a,Vi (L j).b,Vi (L j).imm,Vi (L j).h,Vi (L j).cond,Vi (L j).thn,Vi (L j).els,Vi (L j).proc] 117)=v/\Bw wr v/\Cl v wr.heap.size [Vi (L j).k,Vi (L j).op,Vi (L j).d,Vi (L j).a,Vi (L j).b,Vi (L j).imm,Vi (L j).h,Vi (L j).cond,Vi (L j).thn,Vi (L j).els,Vi (L j).proc]:=⟨_,rfl,Ai,Cl.new⟩
  rw[hu];have B0:=hxy (K.trans (ad.mono K.size));have C0:=hxy af;clear hu ad af s0;generalize wr.heap.size=nb at *;refine(WK (L j) o _ p0 p1).mono ?_;rintro e u1⟨rfl,E⟩;have J:=hxy (B0.trans (E.mono B0.size));have C1:=hxy (C0.below E);clear E B0 C0;cases hok:BZ (L j) o with
  |false=>
   have z:=hxy hok;clear hok;go_wp2;exact mY (.tuple #[Vi 2,Vi (j:Int)]) (by simp[results,Tryz.results62,go_sem]) ⟨by rw[<-y.out,Nb A z.out],J⟩
  |true=>
  obtain⟨tp,ep⟩:=Mk hok;have z:Hid (¬BZ (L j) o=false):=(by simp[hok]:¬BZ (L j) o=false)
  clear hok;obtain⟨a,ha⟩:∃x:Nat,(L j).thn=(x:Int):=⟨(L j).thn.toNat,AB⟩
  obtain⟨c,hc⟩:∃x:Nat,(L j).els=(x:Int):=⟨(L j).els.toNat,AB⟩
  have D:Hid ((L j).thn.toNat=a):=(by omega:(L j).thn.toNat=a)
  have M:Hid ((L j).els.toNat=c):=(by omega:(L j).els.toNat=c)
  obtain⟨c0,c1,c2,c3,c4,c5,c6,c7,S,U,N⟩:=Mx C1;have zl:=C1.1;rw[ha]at S;rw[hc]at U;have aa:=hxy ha;have ab:=hxy hc;clear ha hc tp ep;by_cases hs:j+1+a+c<=s
  rotate_left
  ·have HS:Hid (¬j+1+(L j).thn.toNat+(L j).els.toNat<=s):=(by rw[D.out,M.out];exact hs:¬j+1+(L j).thn.toNat+(L j).els.toNat<=s)
   by_cases h1:(a:Int)>(s:Int)-(j:Int)-1
   ·have e1:decide ((s:Int)-(j:Int)-1<(a:Int))=true:=by simp;omega
    go_wp2;exact mY (.tuple #[Vi 3,Vi (j:Int)]) (by simp[results,Tryz.results62,go_sem]) ⟨by rw[<-y.out,IC A z.out HS.out],J⟩
   ·have e1:decide ((s:Int)-(j:Int)-1<(a:Int))=false:=by simp;omega
    have e2:decide ((s:Int)-(j:Int)-1-(a:Int)<(c:Int))=true:=by simp;omega
    go_wp2;exact mY (.tuple #[Vi 3,Vi (j:Int)]) (by simp[results,Tryz.results62,go_sem]) ⟨by rw[<-y.out,IC A z.out HS.out],J⟩
  have HS:Hid (j+1+(L j).thn.toNat+(L j).els.toNat<=s):=(by rw[D.out,M.out];exact hs:j+1+(L j).thn.toNat+(L j).els.toNat<=s)
  have e1:decide ((s:Int)-(j:Int)-1<(a:Int))=false:=by simp;omega
  have e2:decide ((s:Int)-(j:Int)-1-(a:Int)<(c:Int))=false:=by simp;omega
  by_cases h3:((L j).k=2∨(L j).k=3)/\p<=l
  ·have Q:=hxy h3
   have e4:decide (p<=l)=true:=by simp;omega
   by_cases B:(L j).k=2
   ·have e3:((L j).k==2)=true:=by simp[B]
    clear h3 B;go_wp2;exact mY (.tuple #[Vi 4,Vi (j:Int)]) (by simp[results,Tryz.results62,go_sem]) ⟨by rw[<-y.out,Jm A z.out HS.out Q.out],J⟩
   ·have e3:((L j).k==2)=false:=by simp[B]
    have e5:((L j).k==3)=true:=by rcases h3.1 with q|q<;>simp_all
    clear h3 B;go_wp2;exact mY (.tuple #[Vi 4,Vi (j:Int)]) (by simp[results,Tryz.results62,go_sem]) ⟨by rw[<-y.out,Jm A z.out HS.out Q.out],J⟩
  have Q:=hxy h3;clear h3;go_upto_region 9 with fail;go_cut [64](fun an wx=>an=.bool false/\wx=u1)
  case first=>
   by_cases B:(L j).k=2
   ·have e3:((L j).k==2)=true:=by simp[B]
    have e4:decide (p<=l)=false:=by have:=Q.out;simp;omega
    clear B;go_wp2_with fail;go_meet;exact⟨rfl,rfl⟩
   ·have e3:((L j).k==2)=false:=by simp[B]
    by_cases h5:(L j).k=3
    ·have e5:((L j).k==3)=true:=by simp[h5]
     have e4:decide (p<=l)=false:=by have:=Q.out;simp;omega
     clear B h5;go_wp2_with fail;go_meet;exact⟨rfl,rfl⟩
    ·have e5:((L j).k==3)=false:=by simp[h5]
     clear B h5;go_wp2_with fail;go_meet;exact⟨rfl,rfl⟩
  case rest=>
   obtain⟨rfl,hw⟩:=hcut;rw[hw];clear hw;clear e1 e2;by_cases h4:(L j).k=4/\(L j).proc<=C
   ·have H4:=hxy h4
    have e6:((L j).k==4)=true:=by simp[h4.1]
    have e7:decide ((L j).proc<=C)=true:=by simp[h4.2]
    clear h4;go_wp2;exact mY (.tuple #[Vi 5,Vi (j:Int)]) (by simp[results,Tryz.results62,go_sem]) ⟨by rw[<-y.out,Na A z.out HS.out Q.out H4.out],J⟩
   have H4:=hxy h4;clear h4;go_upto_region 11 with fail;go_cut [74](fun ao wx=>ao=.bool false/\wx=u1)
   case first=>
    by_cases B:(L j).k=4
    ·have e6:((L j).k==4)=true:=by simp[B]
     have e7:decide ((L j).proc<=C)=false:=by have:=H4.out;simp;omega
     clear B;go_wp2_with fail;go_meet;exact⟨rfl,rfl⟩
    ·have e6:((L j).k==4)=false:=by simp[B]
     clear B;go_wp2_with fail;go_meet;exact⟨rfl,rfl⟩
   case rest=>
    obtain⟨rfl,hw⟩:=hcut;rw[hw];clear hw;go_wp2_with fail;have r:=IH.out (s-j-1) AB (j+1) (j+1+a) (l+1) u1 AB AB AB AB AB (HA.below J HA.lt);rw[show((j+1:Nat):Int)=(j:Int)+1 by omega,show((j+1+a:Nat):Int)=(j:Int)+1+(a:Int)by omega]at r;refine r.mono ?_;clear r;rintro e u2⟨rfl,E⟩;have B2:=hxy (J.trans (E.mono J.size));have C2:=hxy (C1.below E);clear E C1;clear c0 c1 c2 c3 c4 c5 c6 c7 S U N zl;obtain⟨I,X⟩:=Au (DU L C o p (j+1) (j+1+a) (l+1));rw[X];have aj:Hid (DU L C o p (j+1) (j+1+(L j).thn.toNat) (l+1)=I):=(by rw[D.out];exact X:DU L C o p (j+1) (j+1+(L j).thn.toNat) (l+1)=I)
    clear X;have HT:=LM A z HS Q H4;rw[aj.out]at HT;have R:Hid _:=HT;clear HT;obtain⟨c0,c1,c2,c3,c4,c5,c6,c7,S,U,N⟩:=Mx C2;have zl:=C2.1;rw[aa.out]at S;rw[ab.out]at U;by_cases Z:I.1=0
    rotate_left
    ·have e8:(I.1==0)=false:=by simp[Z]
     have e9:(I.1 !=0)=true:=by simp[Z]
     have Z1:=hxy Z;clear Z;go_wp2;exact mY (.tuple #[Vi I.1,Vi I.2]) (by simp[results,Tryz.results62,go_sem]) ⟨by rw[<-y.out,R.out,if_pos Z1.out],B2⟩
    have e8:(I.1==0)=true:=by simp[Z]
    have Z1:Hid (¬I.1≠0):=(by simp[Z]:¬I.1≠0)
    clear Z;go_wp2_with fail;have r:=IH.out (s-j-1) AB (j+1+a) (j+1+a+c) (l+1) u2 AB AB AB AB AB (HA.below B2 HA.lt);rw[show((j+1+a:Nat):Int)=(j:Int)+1+(a:Int)by omega,show((j+1+a+c:Nat):Int)=(j:Int)+1+(a:Int)+(c:Int)by omega]at r;refine r.mono ?_;clear r;rintro e u3⟨rfl,E⟩;have B3:=hxy (B2.trans (E.mono B2.size));have C3:=hxy (C2.below E);clear E C2;clear c0 c1 c2 c3 c4 c5 c6 c7 S U N zl;obtain⟨O,Y⟩:=Au (DU L C o p (j+1+a) (j+1+a+c) (l+1));rw[Y];have ac:Hid (DU L C o p (j+1+(L j).thn.toNat) (j+1+(L j).thn.toNat+(L j).els.toNat) (l+1)=O):=(by rw[D.out,M.out];exact Y:DU L C o p (j+1+(L j).thn.toNat) (j+1+(L j).thn.toNat+(L j).els.toNat) (l+1)=O)
    clear Y e8;obtain⟨c0,c1,c2,c3,c4,c5,c6,c7,S,U,N⟩:=Mx C3;have zl:=C3.1;rw[aa.out]at S;rw[ab.out]at U;by_cases z2:O.1=0
    rotate_left
    ·have e9:(O.1 !=0)=true:=by simp[z2]
     have Z2:=hxy z2;clear z2;go_wp2;exact mY (.tuple #[Vi O.1,Vi O.2]) (by simp[results,Tryz.results62,go_sem]) ⟨by rw[<-y.out,R.out,if_neg Z1.out,ac.out,if_pos Z2.out],B3⟩
    have e9:(O.1 !=0)=false:=by simp[z2]
    have Z2:Hid (¬O.1≠0):=(by simp[z2]:¬O.1≠0)
    clear z2;go_wp2;go_roundw
    case rel=>
     refine⟨j+1+a+c,AB,AB,by go_num,B3,?_⟩;rw[<-y.out,R.out,if_neg Z1.out,ac.out,if_neg Z2.out,D.out,M.out]
    case measure=>simp[intOf];omega
end Go.Proofs.YtcjnmdgomocpgaaGreatDoor
