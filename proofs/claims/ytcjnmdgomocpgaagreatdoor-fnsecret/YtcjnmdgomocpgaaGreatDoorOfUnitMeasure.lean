import Derived.Test.YtcjnmdgomocpgaaGreatDoorOfUnitWrong
set_option maxHeartbeats 16000000
set_option maxRecDepth 20000
namespace Go.Proofs.YtcjnmdgomocpgaaGreatDoor
open Go.RowKit
variable {S depth err pos r x z:Int}{d:List Value}{Y b i m n p t te:Nat}{L:Nat->SV}{s:SV}{A:Value}{N a j w wr:World}
structure Ft(t:Nat)(w w':World):Prop where
 os:w'.os=w.os
 tape:w'.tape=w.tape
 output:w'.output=w.output
 size:w.heap.size<=w'.heap.size
 block:∀k,k<w.heap.size->k≠t->w'.heap[k]?=w.heap[k]?
theorem Ft.of_below(h:Below w.heap.size w j):Ft t w j:=⟨h.os,h.tape,h.output,h.size,fun k a _=>h.block k a⟩
theorem Ft.refl(t:Nat)(w:World):Ft t w w:=⟨rfl,rfl,rfl,BQ,fun _ _ _=>rfl⟩
theorem Ft.trans{b c:World}(h:Ft t a b)(k:Ft t b c):Ft t a c:=
 ⟨k.os.trans h.os,k.tape.trans h.tape,k.output.trans h.output,Nat.le_trans h.size k.size,fun i d e=>(k.block i (Ey d h.size) e).trans (h.block i d e)⟩
theorem Ft.set{b:World}(h:Ft t a b)(o:Nat)(v:Value):Ft t a (b.setCell (Va t o) v):=
 ⟨h.os,h.tape,h.output,by simpa using h.size,fun i d c=>(Below.heap_setCell b ⟨t,o,none⟩ v i (by simpa using c)).trans (h.block i d c)⟩
theorem Ft.cell(h:Ft t w j){o:Nat}(c:b<w.heap.size)(d:b≠t):j.cell? (Va b o)=w.cell? (Va b o):=World.cell?_of_block (a:=Va b o) (h.block b c d)
theorem Ft.frozen(h:Ft t w j){o:Nat}(c:b<w.heap.size)(d:b≠t):j.frozen? (Va b o)=w.frozen? (Va b o):=World.frozen?_of_block (a:=Va b o) (h.block b c d)
theorem Ft.arr(h:Ft t w j){f:Nat->Value}(a:Ak w b n f)(c:b≠t):Ak j b n f:=
 ⟨Ey a.1 h.size,fun i=>(h.frozen a.1 c).trans (a.2.1 i),fun i d=>(h.cell a.1 c).trans (a.2.2 i d)⟩
theorem Ft.cl(h:Ft t w j){N:List Value}(a:Cl w b N)(d:b≠t):Cl j b N:=
 ⟨Ey a.1 h.size,fun i c=>(h.cell a.1 d).trans (a.2 i c)⟩
structure KC(w:World)(t b n cap:Nat)(own procs dmax err pos:Int):Prop where
 C:Cl w t [Vs b n cap,Vi own,Vi procs,Vi dmax,Vi err,Vi pos]
 F:∀i,w.frozen? (Va t i)=false
theorem KC.below(h:KC w t b n Y S z r err pos)(a:Below w.heap.size w j):KC j t b n Y S z r err pos:=
 ⟨h.C.below a,fun i=>(a.frozen (p:=Va t i) h.C.1).trans (h.F i)⟩
theorem Ef{F:Int}(h:KC w t b n Y S z r F pos):w.cell? (Va t 0)=some (Vs b n Y)/\w.cell? (Va t 1)=some (Vi S)/\w.cell? (Va t 2)=some (Vi z)/\w.cell? (Va t 3)=some (Vi r)/\w.cell? (Va t 4)=some (Vi F)/\w.cell? (Va t 5)=some (Vi pos):=
 ⟨h.C.2 0 AX,h.C.2 1 AX,h.C.2 2 AX,h.C.2 3 AX,h.C.2 4 AX,h.C.2 5 AX⟩
theorem KC.setPos(h:KC w t b n Y S z r err pos)(x:Int):KC (w.setCell (Va t 5) (Vi x)) t b n Y S z r err x:=by
 obtain⟨a,c,d,e,j,k⟩:=Ef h;refine⟨⟨by simpa using h.C.1,fun i l=>?_⟩,fun i=>by simpa using h.F i⟩;match i,l with
 |0,_=>simp[go_sem,a]
 |1,_=>simp[go_sem,c]
 |2,_=>simp[go_sem,d]
 |3,_=>simp[go_sem,e]
 |4,_=>simp[go_sem,j]
 |5,_=>simp[go_sem,k]
theorem KC.setErr(h:KC w t b n Y S z r err pos)(x:Int):KC (w.setCell (Va t 4) (Vi x)) t b n Y S z r x pos:=by
 obtain⟨a,c,d,e,j,k⟩:=Ef h;refine⟨⟨by simpa using h.C.1,fun i l=>?_⟩,fun i=>by simpa using h.F i⟩;match i,l with
 |0,_=>simp[go_sem,a]
 |1,_=>simp[go_sem,c]
 |2,_=>simp[go_sem,d]
 |3,_=>simp[go_sem,e]
 |4,_=>simp[go_sem,j]
 |5,_=>simp[go_sem,k]
def LK(L:Nat->SV)(m:Nat)(w:World)(S:Nat->Prop)(x:Value)(p:Nat):Prop:=
 ((L p).k=1/\x=.iface 155 (.agg #[Vi (p:Int),Vi (L p).op,Vi (L p).d,Vi (L p).a,Vi (L p).b,Vi (L p).imm,Vi (L p).h]))∨
 ((L p).k=2/\∃v1 v2,x=.iface 157 (.agg #[Vi (p:Int),Vi (L p).cond,v1,v2])/\Ew L m w S v1 (p+1) (p+1+(L p).thn.toNat)/\Ew L m w S v2 (p+1+(L p).thn.toNat) (p+1+(L p).thn.toNat+(L p).els.toNat))∨
 ((L p).k=3/\∃v1,x=.iface 160 (.agg #[Vi (p:Int),Vi (L p).cond,v1])/\Ew L m w S v1 (p+1) (p+1+(L p).thn.toNat))∨
 ((L p).k=4/\x=.iface 220 (.agg #[Vi (L p).proc]))
def Oc(L:Nat->SV)(t b n cap:Nat)(own procs dmax:Int)(m i te:Nat)(depth:Int):Prop:=
 ∀w,Ak w b (n*11) (JW L)->KC w t b n cap own procs dmax 0 (i:Int)->Ks 53 #[Vq t,Vi ((te:Int)-(i:Int)),Vi depth] w fun e w'=>∃(ao:Option Addr)(k c:Nat),e=.returned (.slice ao k c)/\Ft t w w'/\KC w' t b n cap own procs dmax (DU L own procs (dmax+1) i te depth).1 (if(DU L own procs (dmax+1) i te depth).1=0 then(te:Int)else(DU L own procs (dmax+1) i te depth).2)/\((DU L own procs (dmax+1) i te depth).1=0->Ew L m w' (fun q=>w.heap.size<=q) (.slice ao k c) i te)
theorem Jl(L:Nat->SV)(t b n l:Nat)(r c j:Int)(m p:Nat)(o:Int)(w:World)(p0:p<=1048576)(M:KC w t b n l r c j 0 (p:Int))(hk:(L p).k=1∨(L p).k=4):
 Ks 91 #[Vq t,.agg #[Vi (L p).k,Vi (L p).op,Vi (L p).d,Vi (L p).a,Vi (L p).b,Vi (L p).imm,Vi (L p).h,Vi (L p).cond,Vi (L p).thn,Vi (L p).els,Vi (L p).proc],Vi o] w fun e B=>∃O a,e=.returned (.iface O a)/\Ft t w B/\KC B t b n l r c j 0 ((p:Int)+1)/\LK L m B (fun q=>w.heap.size<=q) (.iface O a) p:=by
 have R:=hxy M;have lt:=M.C.1;go_enter Tryz.func91,Tryz.ntmps91;go_upto_region 1 with fail;obtain⟨u,hu,N,Y⟩:∃x,w.alloc (.cells #[Vi (L p).k,Vi (L p).op,Vi (L p).d,Vi (L p).a,Vi (L p).b,Vi (L p).imm,Vi (L p).h,Vi (L p).cond,Vi (L p).thn,Vi (L p).els,Vi (L p).proc] 117)=x/\Bw w x/\Cl x w.heap.size [Vi (L p).k,Vi (L p).op,Vi (L p).d,Vi (L p).a,Vi (L p).b,Vi (L p).imm,Vi (L p).h,Vi (L p).cond,Vi (L p).thn,Vi (L p).els,Vi (L p).proc]:=⟨_,rfl,Ai,Cl.new⟩
 rw[hu];have s:=hxy (R.below N);have D:=hxy Y;have Q:Hid (Ft t w u):=Ft.of_below N;have q0:=Ef s;have tf:=s.F;have tl:=s.C.1;go_upto_region 3 with fail;obtain⟨u1,A,J,I,E⟩:∃x,u.setCell (Va t 5) (Vi ((p:Int)+1))=x/\Hid (KC x t b n l r c j 0 ((p:Int)+1))/\Hid (Ft t w x)/\Hid (Cl x w.heap.size [Vi (L p).k,Vi (L p).op,Vi (L p).d,Vi (L p).a,Vi (L p).b,Vi (L p).imm,Vi (L p).h,Vi (L p).cond,Vi (L p).thn,Vi (L p).els,Vi (L p).proc]):=⟨_,rfl,s.setPos _,Q.set _ _,⟨by simpa using D.1,fun i Z=>(World.cell?_setCell_far _ _ _ _ (show t≠w.heap.size by omega)).trans (D.2 i Z)⟩⟩
 rw[A];have c0:=Mx E;have cz:=E.1;rcases hk with y|z
 ·have S:((L p).k==2)=false:=by simp[y]
  have U:((L p).k==3)=false:=by simp[y]
  have X:((L p).k==4)=false:=by simp[y]
  have K:=hxy y;go_wp2;go_ret;exact⟨_,_,rfl,I,J,.inl ⟨K,rfl⟩⟩
 ·have S:((L p).k==2)=false:=by simp[z]
  have U:((L p).k==3)=false:=by simp[z]
  have X:((L p).k==4)=true:=by simp[z]
  have K:=hxy z;go_wp2;go_ret;exact⟨_,_,rfl,I,J,.inr (.inr (.inr ⟨K,rfl⟩))⟩
theorem Ft.drew{b:World}(h:Ft t a b):Ft t a b.drew:=⟨h.os,h.tape,h.output,h.size,h.block⟩
def Pg(L:Nat->SV)(own procs dmax:Int)(p:Nat)(depth:Int):Int×Int:=
 if(DU L own procs (dmax+1) (p+1) (p+1+(L p).thn.toNat) (depth+1)).1≠0 then DU L own procs (dmax+1) (p+1) (p+1+(L p).thn.toNat) (depth+1)
 else if(DU L own procs (dmax+1) (p+1+(L p).thn.toNat) (p+1+(L p).thn.toNat+(L p).els.toNat) (depth+1)).1≠0 then DU L own procs (dmax+1) (p+1+(L p).thn.toNat) (p+1+(L p).thn.toNat+(L p).els.toNat) (depth+1)
 else(0,((p+1+(L p).thn.toNat+(L p).els.toNat:Nat):Int))
def fB(L:Nat->SV)(t b n cap:Nat)(own procs dmax:Int)(m p:Nat)(depth:Int):Prop:=
 ∀w,Ak w b (n*11) (JW L)->KC w t b n cap own procs dmax 0 (p:Int)->Ks 91 #[Vq t,.agg #[Vi (L p).k,Vi (L p).op,Vi (L p).d,Vi (L p).a,Vi (L p).b,Vi (L p).imm,Vi (L p).h,Vi (L p).cond,Vi (L p).thn,Vi (L p).els,Vi (L p).proc],Vi depth] w fun e w'=>∃ty a,e=.returned (.iface ty a)/\Ft t w w'/\KC w' t b n cap own procs dmax (Pg L own procs dmax p depth).1 (Pg L own procs dmax p depth).2/\((Pg L own procs dmax p depth).1=0->LK L m w' (fun q=>w.heap.size<=q) (.iface ty a) p)
theorem UG(t b n k:Nat)(o d h c p j a:Int)(w:World)(l:KC w t b n k o d h c p)(m:c≠0):
 Ks 53 #[Vq t,Vi j,Vi a] w fun e r=>e=.returned (.slice none 0 0)/\r=w:=by
 have x:=Ef l;have y:=l.C.1;have u:(c==0)=false:=by simp[m]
 have s:=hxy m;clear l m;go_enter Tryz.func53,Tryz.ntmps53;go_wp2;go_loopw [7](fun q wr=>q=.slice none 0 0/\wr=w)(fun _ _=>0)
 case atStart=>exact⟨rfl,rfl⟩
 case round=>
  obtain⟨rfl,rfl⟩:=hrel;go_wp2;go_ret;exact⟨rfl,rfl⟩
theorem QJ(L:Nat->SV)(t b n r:Nat)(o j l:Int)(m p:Nat)(c:Int)(p0:p<=1048576)(d0:0<=c)(d1:c<=1099511627776)(B:b≠t)(O:(L p).k=3)(th:0<=(L p).thn)(el:(L p).els=0)
 (h1:Oc L t b n r o j l m (p+1) (p+1+(L p).thn.toNat) (c+1)):fB L t b n r o j l m p c:=by
 intro w U X;have H1:Hid _:=h1;clear h1;have e2:((L p).k==2)=false:=by simp[O]
 have e3:((L p).k==3)=true:=by simp[O]
 have K:=hxy O;have EL:=hxy el;clear O el;have HT:=hxy X;have HA:=hxy U;have lt:=X.C.1;have lb:=U.1;clear X U;go_enter Tryz.func91,Tryz.ntmps91;go_upto_region 1 with fail;obtain⟨u,hu,Y,z⟩:∃x,w.alloc (.cells #[Vi (L p).k,Vi (L p).op,Vi (L p).d,Vi (L p).a,Vi (L p).b,Vi (L p).imm,Vi (L p).h,Vi (L p).cond,Vi (L p).thn,Vi (L p).els,Vi (L p).proc] 117)=x/\Bw w x/\Cl x w.heap.size [Vi (L p).k,Vi (L p).op,Vi (L p).d,Vi (L p).a,Vi (L p).b,Vi (L p).imm,Vi (L p).h,Vi (L p).cond,Vi (L p).thn,Vi (L p).els,Vi (L p).proc]:=⟨_,rfl,Ai,Cl.new⟩
 rw[hu];have A:=hxy (HT.below Y);have Q:=hxy z;have F0:Hid (Ft t w u):=Ft.of_below Y;clear hu Y z HT;have q0:=Ef A;have tf:=A.F;have tl:=A.C.1;go_upto_region 3 with fail;clear q0 tf tl;obtain⟨u1,M,T1,R,N⟩:∃x,u.setCell (Va t 5) (Vi ((p:Int)+1))=x/\Hid (KC x t b n r o j l 0 ((p:Int)+1))/\Hid (Ft t w x)/\Hid (Cl x w.heap.size [Vi (L p).k,Vi (L p).op,Vi (L p).d,Vi (L p).a,Vi (L p).b,Vi (L p).imm,Vi (L p).h,Vi (L p).cond,Vi (L p).thn,Vi (L p).els,Vi (L p).proc]):=⟨_,rfl,A.setPos _,F0.set _ _,⟨by simpa using Q.1,fun i hi=>(World.cell?_setCell_far _ _ _ _ (show t≠w.heap.size by omega)).trans (Q.2 i hi)⟩⟩
 rw[M];clear M A F0 Q;have A1:=hxy (R.arr HA B);have nt:w.heap.size≠t:=AB;clear HA;have c0:=Mx N;have cz:=N.1;go_upto_region 8 with fail;clear c0;have fd:IntKind.i64.wrap (c+1)=c+1:=by rw[IntKind.wrap_i64];omega
 have r7:∀s,Ft t u1 s->s.cell? ⟨w.heap.size,7,none⟩=some (Vi (L p).cond):=fun s h=>(h.cl N nt).2 7 AX
 have r8:∀s,Ft t u1 s->s.cell? ⟨w.heap.size,8,none⟩=some (Vi (L p).thn):=fun s h=>(h.cl N nt).2 8 AX
 refine wp_region_held_drew (S:=fun s=>Ft t u1 s) AV (Ft.refl _ _).drew (fun hd0=>?_);have TD:Hid (KC u1.drew t b n r o j l 0 ((p:Int)+1)):=T1.below BJ.drew;have AD:=hxy (hd0.arr A1 B);generalize u1.drew=v0 at hd0 TD AD⊢;refine EX [0,1,2,3,4,5,6,7] ?_;refine AO 8 rfl (fun KK hK=>?_);go_simp;have z:=H1.out v0 AD (by rw[show((p+1:Nat):Int)=(p:Int)+1 by omega];exact TD);rw[show(((p+1+(L p).thn.toNat:Nat):Int)-((p+1:Nat):Int))=(L p).thn by omega]at z;refine z.mono ?_;rintro e w1⟨ab,k1,aa,rfl,E,J,I⟩;have D:=hd0.trans E;have TT:=hxy J;have RR:=hxy I;have SZ:Hid (w.heap.size<=v0.heap.size):=Nat.le_trans R.size hd0.size;clear z E J I;go_wp2_with fail;refine hK.out _ _ D (fun hHeld=>?_);clear hK KK;refine Cn ?_;refine EX [9,10,11] ?_;refine wpAnyH_done AV ?_ _;clear r7 r8 hHeld;go_wp2;go_ret;have Z:Pg L o j l p c=if(DU L o j (l+1) (p+1) (p+1+(L p).thn.toNat) (c+1)).1≠0 then DU L o j (l+1) (p+1) (p+1+(L p).thn.toNat) (c+1)else(0,((p+1+(L p).thn.toNat:Nat):Int)):=by
  unfold Pg;rw[EL.out,Li (by simp:¬p+1+(L p).thn.toNat<p+1+(L p).thn.toNat+(0:Int).toNat)];simp
 rw[Z];refine⟨_,_,rfl,R.trans D,?_,fun h=>?_⟩
 ·by_cases y:(DU L o j (l+1) (p+1) (p+1+(L p).thn.toNat) (c+1)).1=0
  ·have:=TT.out
   rw[if_pos y,y]at this;rw[if_neg (by simpa using y)];exact this
  ·have:=TT.out
   rw[if_neg y]at this;rw[if_pos y];exact this
 ·refine .inr (.inr (.inl ⟨K,_,rfl,(RR ?_).kept (fun q h=>Nat.le_trans SZ h) (fun _ _ _=>rfl)⟩))
  by_cases y:(DU L o j (l+1) (p+1) (p+1+(L p).thn.toNat) (c+1)).1=0
  ·exact y
  ·rw[if_pos y]at h;exact h
theorem QL(L:Nat->SV)(t b n r:Nat)(o j l:Int)(m p:Nat)(c:Int)(p0:p<=1048576)(d0:0<=c)(d1:c<=1099511627776)(Q:b≠t)(hk:(L p).k=2)(th:0<=(L p).thn)(el:0<=(L p).els)
 (h1:Oc L t b n r o j l m (p+1) (p+1+(L p).thn.toNat) (c+1))(h2:Oc L t b n r o j l m (p+1+(L p).thn.toNat) (p+1+(L p).thn.toNat+(L p).els.toNat) (c+1)):fB L t b n r o j l m p c:=by
 intro w hA hT;have H1:Hid _:=h1;have H2:Hid _:=h2;clear h1 h2;have e2:((L p).k==2)=true:=by simp[hk]
 have K:=hxy hk;clear hk;have HT:=hxy hT;have HA:=hxy hA;have lt:=hT.C.1;have lb:=hA.1;clear hT hA;go_enter Tryz.func91,Tryz.ntmps91;go_upto_region 1 with fail;obtain⟨u,hu,hb,I⟩:∃x,w.alloc (.cells #[Vi (L p).k,Vi (L p).op,Vi (L p).d,Vi (L p).a,Vi (L p).b,Vi (L p).imm,Vi (L p).h,Vi (L p).cond,Vi (L p).thn,Vi (L p).els,Vi (L p).proc] 117)=x/\Bw w x/\Cl x w.heap.size [Vi (L p).k,Vi (L p).op,Vi (L p).d,Vi (L p).a,Vi (L p).b,Vi (L p).imm,Vi (L p).h,Vi (L p).cond,Vi (L p).thn,Vi (L p).els,Vi (L p).proc]:=⟨_,rfl,Ai,Cl.new⟩
 rw[hu];have T0:=hxy (HT.below hb);have C0:=hxy I;have F0:Hid (Ft t w u):=Ft.of_below hb;clear hu hb I HT;have q0:=Ef T0;have tf:=T0.F;have tl:=T0.C.1;go_upto_region 3 with fail;clear q0 tf tl;obtain⟨u1,aa,T1,F1,C1⟩:∃x,u.setCell (Va t 5) (Vi ((p:Int)+1))=x/\Hid (KC x t b n r o j l 0 ((p:Int)+1))/\Hid (Ft t w x)/\Hid (Cl x w.heap.size [Vi (L p).k,Vi (L p).op,Vi (L p).d,Vi (L p).a,Vi (L p).b,Vi (L p).imm,Vi (L p).h,Vi (L p).cond,Vi (L p).thn,Vi (L p).els,Vi (L p).proc]):=⟨_,rfl,T0.setPos _,F0.set _ _,⟨by simpa using C0.1,fun i hi=>(World.cell?_setCell_far _ _ _ _ (show t≠w.heap.size by omega)).trans (C0.2 i hi)⟩⟩
 rw[aa];clear aa T0 F0 C0;have A1:=hxy (F1.arr HA Q);have nt:w.heap.size≠t:=AB;clear HA;have c0:=Mx C1;have cz:=C1.1;go_wp2_with fail;clear c0;have I:=H1.out u1 A1 (by rw[show((p+1:Nat):Int)=(p:Int)+1 by omega];exact T1);rw[show(((p+1+(L p).thn.toNat:Nat):Int)-((p+1:Nat):Int))=(L p).thn by omega]at I;refine I.mono ?_;rintro e w1⟨ad,k1,ac,rfl,B,X,U⟩;obtain⟨Z,Y⟩:=Au (DU L o j (l+1) (p+1) (p+1+(L p).thn.toNat) (c+1));rw[Y]at X U;have X1:=hxy Y;have FA:=hxy (F1.trans B);have TA:=hxy X;have RA:=hxy U;have AA:=hxy (B.arr A1 Q);have CA:=hxy (B.cl C1 nt);have SZ:=hxy F1.size;have ab:=hxy B.size;clear I B X U Y A1 F1 C1 T1 cz;have cz:=CA.1;go_upto_region 6 with fail;have fd:IntKind.i64.wrap (c+1)=c+1:=by rw[IntKind.wrap_i64];omega
 have r7:∀z,Ft t w1 z->z.cell? ⟨w.heap.size,7,none⟩=some (Vi (L p).cond):=fun z h=>(h.cl CA nt).2 7 AX
 have r9:∀z,Ft t w1 z->z.cell? ⟨w.heap.size,9,none⟩=some (Vi (L p).els):=fun z h=>(h.cl CA nt).2 9 AX
 refine wp_region_held_drew (S:=fun z=>Ft t w1 z) AV (Ft.refl _ _).drew (fun hd0=>?_);have TD:Hid (KC w1.drew t b n r o j l Z.1 (if Z.1=0 then((p+1+(L p).thn.toNat:Nat):Int)else Z.2)):=TA.below BJ.drew;have AD:=hxy (hd0.arr AA Q);generalize w1.drew=v0 at hd0 TD AD⊢;refine EX [0,1,2,3,4,5,6,7,8] ?_;refine AO 9 rfl (fun KK hK=>?_);go_simp;obtain⟨x2,N⟩:=Au (DU L o j (l+1) (p+1+(L p).thn.toNat) (p+1+(L p).thn.toNat+(L p).els.toNat) (c+1));have X2:=hxy N;have A:Ks 53 #[Vq t,Vi (L p).els,Vi (c+1)] v0 fun e z=>∃(E:Option Addr)(k2 y:Nat),e=.returned (.slice E k2 y)/\Ft t v0 z/\KC z t b n r o j l (Pg L o j l p c).1 (Pg L o j l p c).2/\((Pg L o j l p c).1=0->Z.1=0/\Ew L m z (fun q=>v0.heap.size<=q) (.slice E k2 y) (p+1+(L p).thn.toNat) (p+1+(L p).thn.toNat+(L p).els.toNat)):=by
  have hs:Pg L o j l p c=if Z.1≠0 then Z else if x2.1≠0 then x2 else(0,((p+1+(L p).thn.toNat+(L p).els.toNat:Nat):Int)):=by unfold Pg;rw[X1.out,N]
  rw[hs];by_cases D:Z.1=0
  ·have ht:=TD.out
   rw[if_pos D,D]at ht;have I:=H2.out v0 AD ht;rw[show(((p+1+(L p).thn.toNat+(L p).els.toNat:Nat):Int)-((p+1+(L p).thn.toNat:Nat):Int))=(L p).els by omega,N]at I;refine I.mono ?_;rintro e w2⟨E,k2,y,rfl,J,s,M⟩;rw[if_neg (by simpa using D)];refine⟨_,_,_,rfl,J,?_,fun h=>⟨D,M ?_⟩⟩
   ·by_cases O:x2.1=0
    ·rw[if_pos O,O]at s
     rw[if_neg (by simpa using O)];exact s
    ·rw[if_neg O]at s
     rw[if_pos O];exact s
   ·by_cases O:x2.1=0
    ·exact O
    ·rw[if_pos O]at h;exact h
  ·have ht:=TD.out
   rw[if_neg D]at ht;refine(UG t b n r o j l _ _ _ _ v0 ht D).mono ?_;rintro e w2⟨rfl,rfl⟩;rw[if_pos D];exact⟨_,_,_,rfl,Ft.refl _ _,ht,fun h=>absurd h D⟩
 refine A.mono ?_;clear A N;rintro e w2⟨E,k2,y,rfl,J,s,M⟩;have R:=hd0.trans J;have TT:=hxy s;have RR:=hxy M;have FZ:=hxy hd0.size;clear J s M;go_wp2_with fail;refine hK.out _ _ R (fun hHeld=>?_);clear hK KK;refine Cn ?_;refine EX [10,11,12] ?_;refine wpAnyH_done AV ?_ _;clear r7 r9 hHeld;go_wp2;go_ret;refine⟨_,_,rfl,FA.trans R,TT,fun h=>?_⟩;obtain⟨D,hr⟩:=RR.out h;have z1:=SZ.out;have z2:=ab.out;have z3:=FZ.out;refine .inr (.inl ⟨K,_,_,rfl,(RA D).kept (fun q h=>Nat.le_trans z1 h) (fun q h hq=>R.block q hq AB),hr.kept (fun q h=>by omega) (fun _ _ _=>rfl)⟩)
theorem Ew.kept2{S R:Nat->Prop}(d:∀b,S b->b<w.heap.size->R b)(c:∀b,S b->b<w.heap.size->j.heap[b]?=w.heap[b]?):∀(m:Nat){v:Value}{i u:Nat},Ew L m w S v i u->Ew L m j R v i u
 |0,_,_,_,h=>h
 |m+1,v,i,u,h=>by
  obtain⟨I,⟨r,z⟩,C,D⟩:=h;refine⟨I,⟨⟨r.1,?_⟩,fun b h=>d b (z b h) (r.lt b h).2⟩,C,fun k x p o a=>?_⟩
  ·rcases r.2 with h|⟨g,l,n,rfl,o,a,A⟩
   ·exact .inl h
   ·have B:g<w.heap.size:=(I8.1 a).1
    exact .inr ⟨g,l,n,rfl,o,(c g (z g rfl) B).trans a,A⟩
  ·rcases D k x p o a with q|⟨q,y,F,e,s,E⟩|⟨q,y,e,s⟩|q
   ·exact .inl q
   ·exact .inr (.inl ⟨q,y,F,e,s.kept2 d c m,E.kept2 d c m⟩)
   ·exact .inr (.inr (.inl ⟨q,y,e,s.kept2 d c m⟩))
   ·exact .inr (.inr (.inr q))
theorem LK.kept2{S R:Nat->Prop}{x:Value}(h:LK L m w S x p)(c:∀b,S b->b<w.heap.size->R b)(a:∀b,S b->b<w.heap.size->j.heap[b]?=w.heap[b]?):LK L m j R x p:=by
 rcases h with q|⟨q,k,n,e,d,l⟩|⟨q,k,e,d⟩|q
 ·exact .inl q
 ·exact .inr (.inl ⟨q,k,n,e,d.kept2 c a m,l.kept2 c a m⟩)
 ·exact .inr (.inr (.inl ⟨q,k,e,d.kept2 c a m⟩))
 ·exact .inr (.inr (.inr q))
def vU(t te:Nat)(w:World):Nat:=if intOf ((w.cell? (Va t 4)).getD undef)=0 then((te:Int)+1-intOf ((w.cell? (Va t 5)).getD undef)).toNat else 0
theorem Oo{own F:Int}(a:Nat)(h:KC w t b n Y own z r F S):vU t a w=if F=0 then((a:Int)+1-S).toNat else 0:=by
 obtain⟨_,_,_,_,c,d⟩:=Ef h;unfold vU;rw[c,d];rfl
theorem Nu{a:Int}(h:EF s S z r a x=0):BZ s z=true/\s.thn<=a/\s.els<=a-s.thn/\¬((s.k=2∨s.k=3)/\r<x)/\¬(s.k=4/\s.proc<=S):=by
 unfold EF at h;by_cases b:BZ s z=false
 ·rw[if_pos b]at h;exact absurd h Ad
 by_cases c:a<s.thn∨a-s.thn<s.els
 ·rw[if_neg b,if_pos c]at h;exact absurd h Ad
 by_cases d:(s.k=2∨s.k=3)/\r<x
 ·rw[if_neg b,if_neg c,if_pos d]at h;exact absurd h Ad
 by_cases e:s.k=4/\s.proc<=S
 ·rw[if_neg b,if_neg c,if_neg d,if_pos e]at h;exact absurd h Ad
 exact⟨by simpa using b,AB,AB,d,e⟩
theorem MO{u:Nat}(h:p<u):DU L S z (r+1) p u x=if EF (L p) S z r ((u:Int)-(p:Int)-1) x≠0 then(EF (L p) S z r ((u:Int)-(p:Int)-1) x,(p:Int))else if(Pg L S z r p x).1≠0 then Pg L S z r p x else DU L S z (r+1) (p+1+(L p).thn.toNat+(L p).els.toNat) u x:=by
 unfold EF;by_cases a:BZ (L p) z=false
 ·rw[Nb h a,if_pos a,if_pos Ad]
 obtain⟨o,n⟩:=Mk (by simpa using a:BZ (L p) z=true);by_cases l:(u:Int)-(p:Int)-1<(L p).thn∨(u:Int)-(p:Int)-1-(L p).thn<(L p).els
 ·rw[IC h a AB,if_neg a,if_pos l,if_pos Ad]
 have b:p+1+(L p).thn.toNat+(L p).els.toNat<=u:=AB;by_cases c:((L p).k=2∨(L p).k=3)/\r<x
 ·rw[Jm h a b ⟨c.1,AB⟩,if_neg a,if_neg l,if_pos c,if_pos Ad]
 have d:¬(((L p).k=2∨(L p).k=3)/\r+1<=x):=fun g=>c ⟨g.1,AB⟩
 by_cases m:(L p).k=4/\(L p).proc<=S
 ·rw[Na h a b d m,if_neg a,if_neg l,if_neg c,if_pos m,if_pos Ad]
 rw[LM h a b d m,if_neg a,if_neg l,if_neg c,if_neg m,if_neg (show¬((0:Int)≠0)by decide)];unfold Pg;by_cases e:(DU L S z (r+1) (p+1) (p+1+(L p).thn.toNat) (x+1)).1≠0
 ·rw[if_pos e,if_pos e,if_pos e]
 rw[if_neg e,if_neg e];by_cases j:(DU L S z (r+1) (p+1+(L p).thn.toNat) (p+1+(L p).thn.toNat+(L p).els.toNat) (x+1)).1≠0
 ·rw[if_pos j,if_pos j,if_pos j]
 rw[if_neg j,if_neg j,if_neg AX]
theorem iA(h:(Pg L S z r p x).1=0):Pg L S z r p x=(0,((p+1+(L p).thn.toNat+(L p).els.toNat:Nat):Int)):=by
 unfold Pg at h⊢;by_cases a:(DU L S z (r+1) (p+1) (p+1+(L p).thn.toNat) (x+1)).1≠0
 ·rw[if_pos a]at h;exact absurd h a
 rw[if_neg a]at h⊢;by_cases b:(DU L S z (r+1) (p+1+(L p).thn.toNat) (p+1+(L p).thn.toNat+(L p).els.toNat) (x+1)).1≠0
 ·rw[if_pos b]at h;exact absurd h b
 rw[if_neg b]
theorem Uq{own procs dmax:Int}(a:(L p).thn=0)(b:(L p).els=0):Pg L own procs dmax p depth=(0,(p:Int)+1):=by
 unfold Pg;rw[a,b,Li AX,Li AX];simp
theorem Fa{l e s:Nat}{v:Value}(h:w.ownsRow l e s v n d):∃(a:Option Addr)(k c:Nat),v=.slice a k c:=by
 rcases h.2 with⟨m,_⟩|⟨g,b,j,rfl,_⟩
 ·exact⟨_,_,_,m⟩
 ·exact⟨_,_,_,rfl⟩
def BInv(L:Nat->SV)(t b n cap:Nat)(own procs dmax:Int)(m i te:Nat)(depth:Int)(w:World)(mv:Value)(wr:World):Prop:=
 ∃(xs:List Value)(errv posv:Int),Ft t w wr/\KC wr t b n cap own procs dmax errv posv/\wr.ownsRow 0 126 1 mv xs.length xs/\(∀g,mv.ownBlock=some g->w.heap.size<=g)/\((errv≠0/\DU L own procs (dmax+1) i te depth=(errv,posv))∨(errv=0/\∃(p:Nat)(dn:List Nat),posv=(p:Int)/\i<=p/\p<=te/\DU L own procs (dmax+1) p te depth=DU L own procs (dmax+1) i te depth/\D8 L i te=dn++D8 L p te/\xs.length=dn.length/\xs.length<=p/\∀(k:Nat)(x:Value)(q:Nat),xs[k]?=some x->dn[k]?=some q->LK L m wr (fun g=>w.heap.size<=g/\mv.ownBlock≠some g) x q))
theorem BInv.ends{a M:Int}{e:Int×Int}{ps:Int}(u:DU L S z (r+1) i te depth=e)(B:(if e.1=0 then(te:Int)else e.2)=ps)(f:Ft t w wr)(T:KC wr t b n Y S z r a M)(o:wr.ownsRow 0 126 1 A d.length d)(O:∀g,A.ownBlock=some g->w.heap.size<=g)
 (F:(a≠0/\DU L S z (r+1) i te depth=(a,M))∨(a=0/\M=(te:Int)/\∃s:List Nat,DU L S z (r+1) i te depth=(0,0)/\D8 L i te=s/\d.length=s.length/\∀(k:Nat)(x:Value)(q:Nat),d[k]?=some x->s[k]?=some q->LK L m wr (fun g=>w.heap.size<=g/\A.ownBlock≠some g) x q)):
 ∃(y:Option Addr)(k c:Nat),(Ending.returned A)=.returned (.slice y k c)/\Ft t w wr/\KC wr t b n Y S z r e.1 ps/\(e.1=0->Ew L (m+1) wr (fun q=>w.heap.size<=q) (.slice y k c) i te):=by
 subst B u;obtain⟨y,k,c,rfl⟩:=Fa o;refine⟨y,k,c,rfl,f,?_,fun C=>?_⟩
 ·rcases F with⟨j,l⟩|⟨j,l,s,D,_⟩
  ·rw[l]
   simp only[if_neg j];exact T
  ·rw[D]
   simp only[if_true];rw[<-j,<-l];exact T
 ·rcases F with⟨j,l⟩|⟨j,l,s,D,E,J,K⟩
  ·rw[l]at C;exact absurd C j
  ·refine⟨d,⟨o,O⟩,by rw[E];exact J,fun k x p N I=>?_⟩
   rw[E]at I;exact(K k x p N I).kept2 (fun b h _=>h.1) (fun _ _ _=>rfl)
theorem Oq:(Tryz.prog.info? 126).map (fun i=>(i.zero,i.size,i.bytes))=some (some .nilIface,1,16):=AV
theorem Ft.grown{u:World}{p:Option Nat}(h:Ft t w u)(g:u.grownBy N p)(c:∀k,p=some k->w.heap.size<=k):Ft t w N:=
 ⟨g.os.trans h.os,g.tape.trans h.tape,g.output.trans h.output,Nat.le_trans h.size g.size,fun k a b=>(g.block k (Ey a h.size) (fun e=>by have:=c k e.symm;omega)).trans (h.block k a b)⟩
theorem KC.grown{u:World}{p:Option Nat}(h:KC u t b n Y S z r err pos)(g:u.grownBy N p)(d:p≠some t):KC N t b n Y S z r err pos:=
 have e:N.heap[t]?=u.heap[t]?:=g.block t h.C.1 (fun e=>d e.symm)
 ⟨⟨Ey h.C.1 g.size,fun i c=>(World.cell?_of_block (a:=Va t i) e).trans (h.C.2 i c)⟩,fun i=>(World.frozen?_of_block (a:=Va t i) e).trans (h.F i)⟩
theorem fH{l e s:Nat}{v:Value}(h:w.ownsRow l e s v n d)(f:Ft t w j)(q:v.ownBlock≠some t):j.ownsRow l e s v n d:=by
 refine⟨h.1,?_⟩;rcases h.2 with k|⟨g,a,b,rfl,m,c,o⟩
 ·exact .inl k
 ·have p:g<w.heap.size:=(I8.1 c).1
  exact .inr ⟨g,a,b,rfl,m,(f.block g p (fun e=>q (by rw[e];rfl))).trans c,o⟩
theorem BInv.bad{u3:World}(q:t<w.heap.size)(k:Ft t w wr)(l:wr.ownsRow 0 126 1 A d.length d)(h:∀g,A.ownBlock=some g->w.heap.size<=g)(a:p<te)
 (o:DU L S z (r+1) p te depth=DU L S z (r+1) i te depth)(F3:Ft t wr u3)(j:KC u3 t b n Y S z r (EF (L p) S z r ((te:Int)-(p:Int)-1) depth) (p:Int))(c:EF (L p) S z r ((te:Int)-(p:Int)-1) depth≠0):
 BInv L t b n Y S z r m i te depth w A u3/\vU t te u3=0:=by
 refine⟨⟨d,_,_,k.trans F3,j,fH l F3 (fun e=>by have:=h t e;omega),h,.inl ⟨c,?_⟩⟩,?_⟩
 ·rw[<-o,MO a,if_pos c]
 ·rw[Oo te j,if_neg c]
theorem BInv.more{u3 u4:World}{D x:Value}{h:List Nat}{O:Obj}(lt:t<w.heap.size)(Z:Ft t w wr)(O0:wr.ownsRow 0 126 1 A d.length d)(M:∀g,A.ownBlock=some g->w.heap.size<=g)(aa:i<=p)(l:p<te)
 (hc:DU L S z (r+1) p te depth=DU L S z (r+1) i te depth)(ht:D8 L i te=h++D8 L p te)(hl:d.length=h.length)(hx:d.length<=p)(N0:∀(k:Nat)(x:Value)(q:Nat),d[k]?=some x->h[k]?=some q->LK L m wr (fun g=>w.heap.size<=g/\A.ownBlock≠some g) x q)
 (F3:Ft t wr u3)(J:Ft t u3 u4)(T4:KC u4 t b n Y S z r (Pg L S z r p depth).1 (Pg L S z r p depth).2)(N4:(Pg L S z r p depth).1=0->LK L m u4 (fun q=>u3.heap.size<=q) x p)
 (X:EF (L p) S z r ((te:Int)-(p:Int)-1) depth=0)(O1:N.ownsRow 0 126 1 D (d.length+1) (d++[x]))(G:(u4.alloc O).grownBy N A.ownBlock)(R:D.ownBlock=A.ownBlock∨D.ownBlock=some (u4.heap.size+1)):
 BInv L t b n Y S z r m i te depth w D N/\vU t te N<te+1-p:=by
 obtain⟨U,h1,h2,_,_⟩:=Nu X;obtain⟨tp,ep⟩:=Mk U;have F:Bw u4 (u4.alloc O):=Ai;have zA:(u4.alloc O).heap.size=u4.heap.size+1:=AX;have z0:=Z.size;have z3:=F3.size;have z4:=J.size;have FU:=((Z.trans F3).trans J).trans (Ft.of_below F);have F1:=FU.grown G M;have y:=(T4.below F).grown G (fun e=>by have:=M t e;omega);have u:∀g,D.ownBlock=some g->w.heap.size<=g:=fun g c=>by
  rcases R with e|e
  ·exact M g (e▸c)
  ·rw[e]at c;have:=Option.some.inj c;omega
 have C:(d++[x]).length=d.length+1:=AX;have s:N.ownsRow 0 126 1 D (d++[x]).length (d++[x]):=by rw[C];exact O1
 by_cases o:(Pg L S z r p depth).1=0
 rotate_left
 ·refine⟨⟨_,_,_,F1,y,s,u,.inl ⟨o,?_⟩⟩,?_⟩
  ·rw[<-hc,MO l,if_neg (by simpa using X),if_pos o]
  ·rw[Oo te y,if_neg o];omega
 ·have hz:=iA o
  have K:=N4 o;rw[hz]at y;refine⟨⟨_,_,_,F1,y,s,u,.inr ⟨rfl,p+1+(L p).thn.toNat+(L p).els.toNat,h++[p],rfl,AB,AB,?_,?_,by simp[hl],AB,?_⟩⟩,?_⟩
  ·rw[<-hc,MO l,if_neg (by simpa using X),if_neg (by simpa using o)]
  ·rw[ht,Dm l];simp
  ·intro k x' q B E
   by_cases e:k<d.length
   ·rw[List.getElem?_append_left e]at B
    rw[List.getElem?_append_left AB]at E;refine(N0 k x' q B E).kept2 (fun g⟨I,Q⟩c=>⟨I,fun a=>?_⟩) (fun g⟨I,Q⟩c=>?_)
    ·rcases R with j|j
     ·exact Q (j▸a)
     ·rw[j]at a;have:=Option.some.inj a;omega
    ·exact(G.block g AB (fun a=>Q a.symm)).trans ((F.block g AB).trans ((J.block g AB AB).trans (F3.block g c AB)))
   ·have ek:k=d.length:=by
     have:=(List.getElem?_eq_some_iff.1 B).1;simp at this;omega
    subst ek;simp at B;rw[hl]at E;simp at E;subst B E;refine K.kept2 (fun g I c=>⟨AB,fun a=>?_⟩) (fun g I c=>?_)
    ·rcases R with j|j
     ·rw[j]at a;have:=(O0.lt g a).2;omega
     ·rw[j]at a;have:=Option.some.inj a;omega
    ·exact(G.block g AB (fun a=>by have:=(O0.lt g a.symm).2;omega)).trans (F.block g c)
  ·rw[Oo te y,if_pos rfl];omega
theorem Jy(L:Nat->SV)(t b n E:Nat)(z j o:Int)(m i l:Nat)(c:Int)(ao:b≠t)(ln:n<=1048576)(aN:i<=l)(aT:l<=n)
 (hS:∀p,i<=p->p<l->EF (L p) z j o ((l:Int)-(p:Int)-1) c=0->fB L t b n E z j o m p c):Oc L t b n E z j o (m+1) i l c:=by
 intro w hA hT;obtain⟨aI,N⟩:=Au (DU L z j (o+1) i l c);rw[N];have Z:=hxy N;obtain⟨ps,ad⟩:∃y:Int,(if aI.1=0 then(l:Int)else aI.2)=y:=⟨_,rfl⟩
 rw[ad];have ah:=hxy ad;clear N ad;have HS:Hid _:=hS;have HA:=hxy hA;have HT:=hxy hT;have lt:=hT.C.1;have lb:=hA.1;have q0:=Ef hT;clear hA hT hS;have fe:IntKind.i64.wrap ((i:Int)+((l:Int)-(i:Int)))=(l:Int):=by rw[IntKind.wrap_i64];omega
 go_enter Tryz.func53,Tryz.ntmps53;go_wp2;clear q0;try rw[show(i:Int)+((l:Int)-(i:Int))=(l:Int)by omega]
 go_loopw [7](fun mv wr=>BInv L t b n E z j o m i l c w mv wr)(fun _ wr=>vU t l wr)
 case atStart=>exact⟨[],0,_,Ft.refl _ _,HT,⟨AX,.inl ⟨rfl,AX⟩⟩,(fun g hg=>by cases hg),.inr ⟨rfl,i,[],rfl,BQ,aN,rfl,rfl,rfl,Nat.zero_le _,fun k x q h=>by simp at h⟩⟩
 case round=>
  obtain⟨xs,I,aH,f0,t0,o0,aG,ac⟩:=hrel;obtain⟨aj,k7,c7,rfl⟩:=Fa o0;have F0:=hxy f0;have O0:=hxy o0;have D:=hxy aG;have O:=hxy t0;clear f0 o0 aG t0;have q0:=Ef O;have tl:=O.C.1;have tf:=O.F;rcases ac with⟨he,ap⟩|⟨he,p,dn,aB,aw,aS,ar,aD,ax,aO,aA⟩
  ·have e0:(I==0)=false:=by simp[he]
   have HE:Hid (I≠0/\DU L z j (o+1) i l c=(I,aH)):=⟨he,ap⟩
   clear he ap;go_wp2;go_ret;exact BInv.ends (L:=L) (m:=m) (i:=i) (te:=l) (depth:=c) Z ah F0 O O0 D (.inl HE)
  subst he aB;have HC:=hxy ar;have ai:=hxy aD;have ag:=hxy ax;have HN:=hxy aA;clear ar aD ax aA;by_cases M:p<l
  rotate_left
  ·have ay:¬(p:Int)<(l:Int):=AB
   go_wp2;go_ret;refine BInv.ends (L:=L) (m:=m) (i:=i) (te:=l) (depth:=c) Z ah F0 O O0 D (.inr ⟨rfl,AB,dn,?_,?_,ag,HN⟩)
   ·rw[<-HC.out,Li M]
   ·rw[ai.out,GZ M];simp
  have ay:(p:Int)<(l:Int):=AB;have aR:(p:Int)<(n:Int):=AB;go_upto_region 4 with fail;clear q0;have u:=hxy (F0.arr HA ao);have r0:Cb wr t 0 (Vs b n E):=fun r h=>(O.below h).C.2 0 AX
  have r5:Cb wr t 5 (Vi (p:Int)):=fun r h=>(O.below h).C.2 5 AX
  have s0:Cb wr b (p*11) (Vi (L p).k):=fun r h=>(Ij (n:=n) (u.below h u.lt) p AB).1
  have s1:Cb wr b (p*11+1) (Vi (L p).op):=fun r h=>(Ij (n:=n) (u.below h u.lt) p AB).2.1
  have s2:Cb wr b (p*11+2) (Vi (L p).d):=fun r h=>(Ij (n:=n) (u.below h u.lt) p AB).2.2.1
  have s3:Cb wr b (p*11+3) (Vi (L p).a):=fun r h=>(Ij (n:=n) (u.below h u.lt) p AB).2.2.2.1
  have s4:Cb wr b (p*11+4) (Vi (L p).b):=fun r h=>(Ij (n:=n) (u.below h u.lt) p AB).2.2.2.2.1
  have s5:Cb wr b (p*11+5) (Vi (L p).imm):=fun r h=>(Ij (n:=n) (u.below h u.lt) p AB).2.2.2.2.2.1
  have s6:Cb wr b (p*11+6) (Vi (L p).h):=fun r h=>(Ij (n:=n) (u.below h u.lt) p AB).2.2.2.2.2.2.1
  have s7:Cb wr b (p*11+7) (Vi (L p).cond):=fun r h=>(Ij (n:=n) (u.below h u.lt) p AB).2.2.2.2.2.2.2.1
  have s8:Cb wr b (p*11+8) (Vi (L p).thn):=fun r h=>(Ij (n:=n) (u.below h u.lt) p AB).2.2.2.2.2.2.2.2.1
  have s9:Cb wr b (p*11+9) (Vi (L p).els):=fun r h=>(Ij (n:=n) (u.below h u.lt) p AB).2.2.2.2.2.2.2.2.2.1
  have af:Cb wr b (p*11+10) (Vi (L p).proc):=fun r h=>(Ij (n:=n) (u.below h u.lt) p AB).2.2.2.2.2.2.2.2.2.2
  refine wp_region_held_drew (S:=fun r=>Bw wr r) AV BJ.drew (fun hd0=>?_);generalize wr.drew=v0 at hd0⊢;refine EX [0,1,2,3,4,5,6,7,8,9] ?_;refine AO 10 rfl (fun KK J=>?_);go_simp;refine J.out _ _ (hd0.alloc hd0.size _) (fun hHeld=>?_);clear J KK;refine Cn ?_;refine AO 11 rfl (fun KK J=>?_);go_simp;refine J.out _ _ (hd0.alloc hd0.size _) (fun hHeld=>?_);clear J KK;refine Cn ?_;refine wpAnyH_done AV ?_ _;obtain⟨u1,aE,Y,ab⟩:∃x,v0.alloc (.cells #[Vi (L p).k,Vi (L p).op,Vi (L p).d,Vi (L p).a,Vi (L p).b,Vi (L p).imm,Vi (L p).h,Vi (L p).cond,Vi (L p).thn,Vi (L p).els,Vi (L p).proc] 117)=x/\Bw wr x/\Cl x v0.heap.size [Vi (L p).k,Vi (L p).op,Vi (L p).d,Vi (L p).a,Vi (L p).b,Vi (L p).imm,Vi (L p).h,Vi (L p).cond,Vi (L p).thn,Vi (L p).els,Vi (L p).proc]:=⟨_,rfl,hd0.alloc hd0.size _,Cl.new⟩
  rw[aE];have A:=hxy ab;have T1:=hxy (O.below Y);have F1:Hid (Ft t wr u1):=Ft.of_below Y;have A1:=hxy (u.below Y u.lt);have nt:t<v0.heap.size:=Ey tl hd0.size;have nl:=ab.1;clear aE Y ab hd0 hHeld r0 r5 s0 s1 s2 s3 s4 s5 s6 s7 s8 s9 af u tl tf;generalize v0.heap.size=B at *;go_upto_region 5 with fail;have tl:=T1.C.1;have tf:=T1.F;have s0:Cb u1 B 0 (Vi (L p).k):=fun r h=>(A.below h).2 0 AX
  have s1:Cb u1 B 1 (Vi (L p).op):=fun r h=>(A.below h).2 1 AX
  have s2:Cb u1 B 2 (Vi (L p).d):=fun r h=>(A.below h).2 2 AX
  have s3:Cb u1 B 3 (Vi (L p).a):=fun r h=>(A.below h).2 3 AX
  have s4:Cb u1 B 4 (Vi (L p).b):=fun r h=>(A.below h).2 4 AX
  have s5:Cb u1 B 5 (Vi (L p).imm):=fun r h=>(A.below h).2 5 AX
  have s6:Cb u1 B 6 (Vi (L p).h):=fun r h=>(A.below h).2 6 AX
  have s7:Cb u1 B 7 (Vi (L p).cond):=fun r h=>(A.below h).2 7 AX
  have s8:Cb u1 B 8 (Vi (L p).thn):=fun r h=>(A.below h).2 8 AX
  have s9:Cb u1 B 9 (Vi (L p).els):=fun r h=>(A.below h).2 9 AX
  have af:Cb u1 B 10 (Vi (L p).proc):=fun r h=>(A.below h).2 10 AX
  have r5:Cb u1 t 5 (Vi (p:Int)):=fun r h=>(T1.below h).C.2 5 AX
  have fd:IntKind.i64.wrap ((l:Int)-(p:Int))=(l:Int)-(p:Int):=by rw[IntKind.wrap_i64];omega
  have aM:IntKind.i64.wrap ((l:Int)-(p:Int)-1)=(l:Int)-(p:Int)-1:=by rw[IntKind.wrap_i64];omega
  refine BH (T:=fun r=>Bw u1 r) (s:=14) AV BJ.drew (fun hHeld=>?_);refine NU [0,1,2,3,4,5,6,7,8,9,10] ?_;refine Ah (i:=11) rfl AV (fun KK J=>?_);go_simp;refine(YI t _ z j o 0 (p:Int) (L p) ((l:Int)-(p:Int)-1) c _ (T1.below BJ.drew).C AB AB).mono ?_;rintro e u2⟨rfl,hb⟩;have b2:=(Below.refl u1.heap.size u1).drew.trans hb;clear hb;obtain⟨wi,ae⟩:=Au (EF (L p) z j o ((l:Int)-(p:Int)-1) c);rw[ae];have U:=hxy ae;clear ae;go_wp2_with fail;refine J.out _ _ b2 (fun X=>?_);clear J KK;refine Cn ?_;refine Bt 12 ?_;refine BR 13 ?_;have T2:=hxy (T1.below b2);have C2:=hxy (A.below b2);have A2:=hxy (A1.below b2 A1.lt);have F2:=hxy (F1.trans (Ft.of_below b2));clear r5 s0 s1 s2 s3 s4 s5 s6 s7 s8 s9 af fd aM;have q0:=Ef T2;have aQ:=T2.C.1;have aP:=T2.F;refine BD rfl AV AV (fun KK J=>?_);go_simp;refine J.out _ _ ?_;clear J KK q0 tl tf aQ aP hHeld X b2 T1 A A1 F1;obtain⟨u3,aF,T3,F3,C3⟩:∃x,u2.setCell (Va t 4) (Vi wi)=x/\Hid (KC x t b n E z j o wi (p:Int))/\Hid (Ft t wr x)/\Hid (Cl x B [Vi (L p).k,Vi (L p).op,Vi (L p).d,Vi (L p).a,Vi (L p).b,Vi (L p).imm,Vi (L p).h,Vi (L p).cond,Vi (L p).thn,Vi (L p).els,Vi (L p).proc]):=⟨_,rfl,T2.setErr _,F2.set _ _,⟨by simpa using C2.1,fun i hi=>(World.cell?_setCell_far _ _ _ _ (show t≠B by omega)).trans (C2.2 i hi)⟩⟩
  rw[aF];clear aF T2 F2 C2 A2;have q0:=Ef T3;have tl:=T3.C.1;by_cases hz:wi=0
  rotate_left
  ·have e0:(wi==0)=false:=by simp[hz]
   have HZ:=hxy hz;clear hz;go_wp2;have R:=BInv.bad (L:=L) (m:=m) (i:=i) (te:=l) (p:=p) (depth:=c) lt F0 O0 D M HC F3 (by rw[U.out];exact T3) (by rw[U.out];exact HZ);go_roundw
   case rel=>exact R.1
   case measure=>rw[R.2,Oo l O.out,if_pos rfl];omega
  subst hz;obtain⟨c0,c1,c2,c3,c4,c5,c6,aK,c8,c9,aJ⟩:=Mx C3;have cz:=C3.1;obtain⟨iV,gV,ak,al,am⟩:=info_parts Oq;have Q:Hid (_/\_/\_/\_):=⟨gV,ak,al,am⟩
  clear gV ak al am;go_wp2_with fail;clear q0 c0 c1 c2 c3 c4 c5 c6 aK c8 c9 aJ tl cz;have hc:=HS.out p aw M U u3 ((F0.trans F3).arr HA ao) T3;refine hc.mono ?_;clear hc;rintro e u4⟨ty,av,rfl,au,aC,az⟩;have F4:=hxy au;have T4:=hxy aC;have N4:=hxy az;have O4:Hid (u4.ownsRow 0 126 1 (.slice aj k7 c7) xs.length xs):=fH O0 (F3.trans F4) (fun e=>by have:=D.out t e;omega);clear au aC az;go_wp2_with(first|(at_builtin;refine wpList_append_own_at _ rfl _ _ 66 rfl 0 126 iV .nilIface 1 16 Tryz.underlying66 Q.1 Q.2.1 Q.2.2.1 Q.2.2.2 rfl Ad (.slice aj k7 c7) xs.length xs rfl (FQ O4 Ai) ⟨u4.heap.size,0,none⟩ 1 1 [.iface ty av] rfl rfl (cell_one_new _ _ _) ?c2 ?c3 ?c4 ?c5 ?_)|go_in)
  case c2=>intro x hx;simp at hx;subst hx;rfl
  case c3=>unfold maxLen;omega
  case c4=>omega
  case c5=>exact Nat.zero_le _
  intro v' w1 aa K _ an;have R:=BInv.more (L:=L) (m:=m) (i:=i) (te:=l) (p:=p) (depth:=c) lt F0 O0 D aw M HC ai ag aO HN F3 F4 T4 N4 U aa K an;have HR:Hid _:=R;clear aa K an R;go_wp2;go_roundw
  case rel=>exact HR.1
  case measure=>have:=HR.2;rw[Oo l O.out,if_pos rfl];omega
theorem rM(h:BZ s z=true):s.k=1∨s.k=2∨s.k=3∨s.k=4:=by
 unfold BZ at h;by_cases a:s.k=1
 ·exact .inl a
 by_cases b:s.k=2
 ·exact .inr (.inl b)
 by_cases c:s.k=3
 ·exact .inr (.inr (.inl c))
 by_cases d:s.k=4
 ·exact .inr (.inr (.inr d))
 rw[if_neg a,if_neg b,if_neg c,if_neg d]at h;cases h
theorem Ro(h:BZ s z=true)(a:s.k=1∨s.k=4):s.thn=0/\s.els=0:=by
 unfold BZ at h;rcases a with k|k
 ·rw[if_pos k]at h;simp at h;omega
 ·rw[if_neg AB,if_neg AB,if_neg AB,if_pos k]at h;simp at h;omega
theorem oq(h:BZ s z=true)(a:s.k=3):s.els=0:=by
 unfold BZ at h;rw[if_neg AB,if_neg AB,if_pos a]at h;simp at h;omega
theorem Td(L:Nat->SV)(t b n l:Nat)(j d h:Int)(q:b≠t)(E:n<=1048576):∀(m i r:Nat)(c:Int),r-i<=m->i<=r->r<=n->0<=c->c+(m:Int)<=1099511627776->Oc L t b n l j d h (m+1) i r c:=by
 intro m;induction m with
 |zero=>
  intro i r c Q s u x I;exact Jy L t b n l j d h 0 i r c q E s u (fun p K M=>by omega)
 |succ m A=>
  intro i r c Q s u x I;refine Jy L t b n l j d h (m+1) i r c q E s u (fun p K M R=>?_);obtain⟨o,U,X,_,_⟩:=Nu R;obtain⟨F,J⟩:=Mk o;rcases rM o with k|k|k|k
  ·obtain⟨C,D⟩:=Ro o (.inl k)
   intro w O y;refine(Jl L t b n l j d h (m+1) p c w AB y (.inl k)).mono ?_;rintro e S⟨B,a,rfl,f,T,N⟩;have z:=Uq (own:=j) (procs:=d) (dmax:=h) (depth:=c) C D;exact⟨B,a,rfl,f,by rw[z];exact T,fun _=>N⟩
  ·exact QL L t b n l j d h (m+1) p c AB x AB q k F J (A _ _ _ AB AB AB AB AB) (A _ _ _ AB AB AB AB AB)
  ·exact QJ L t b n l j d h (m+1) p c AB x AB q k F (oq o k) (A _ _ _ AB AB AB AB AB)
  ·obtain⟨C,D⟩:=Ro o (.inr k)
   intro w O y;refine(Jl L t b n l j d h (m+1) p c w AB y (.inr k)).mono ?_;rintro e S⟨B,a,rfl,f,T,N⟩;have z:=Uq (own:=j) (procs:=d) (dmax:=h) (depth:=c) C D;exact⟨B,a,rfl,f,by rw[z];exact T,fun _=>N⟩
end Go.Proofs.YtcjnmdgomocpgaaGreatDoor
