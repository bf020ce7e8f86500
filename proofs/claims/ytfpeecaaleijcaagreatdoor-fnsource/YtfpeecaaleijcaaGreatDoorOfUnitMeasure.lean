import Derived.Test.YtfpeecaaleijcaaGreatDoorOfCl
import Derived.Test.YtfpeecaaleijcaaGreatDoorOfUnitWrong
set_option maxHeartbeats 16000000
set_option maxRecDepth 20000
namespace Go.Proofs.YtfpeecaaleijcaaGreatDoor
open Go.RowKit
variable {depth dmax err own pos procs:Int}{xs:List Value}{b cap i m n p t te:Nat}{L:Nat->SV}{s:SV}{mv:Value}{a w w' w1 wr:World}
structure Ft(t:Nat)(w w':World):Prop where
 os:w'.os=w.os
 tape:w'.tape=w.tape
 output:w'.output=w.output
 size:w.heap.size<=w'.heap.size
 block:∀k,k<w.heap.size->k≠t->w'.heap[k]?=w.heap[k]?
theorem Ft.of_below(h:Below w.heap.size w w'):Ft t w w':=⟨h.os,h.tape,h.output,h.size,fun k hk _=>h.block k hk⟩
theorem Ft.refl(t:Nat)(w:World):Ft t w w:=⟨rfl,rfl,rfl,jG,fun _ _ _=>rfl⟩
theorem Ft.trans{b c:World}(h:Ft t a b)(k:Ft t b c):Ft t a c:=
 ⟨k.os.trans h.os,k.tape.trans h.tape,k.output.trans h.output,Nat.le_trans h.size k.size,fun i hi hn=>(k.block i (jI hi h.size) hn).trans (h.block i hi hn)⟩
theorem Ft.set{b:World}(h:Ft t a b)(o:Nat)(v:Value):Ft t a (b.setCell (Va t o) v):=
 ⟨h.os,h.tape,h.output,by simpa using h.size,fun i hi hn=>(Below.heap_setCell b ⟨t,o,none⟩ v i (by simpa using hn)).trans (h.block i hi hn)⟩
theorem Ft.cell(h:Ft t w w'){o:Nat}(hb:b<w.heap.size)(hn:b≠t):w'.cell? (Va b o)=w.cell? (Va b o):=World.cell?_of_block (a:=Va b o) (h.block b hb hn)
theorem Ft.frozen(h:Ft t w w'){o:Nat}(hb:b<w.heap.size)(hn:b≠t):w'.frozen? (Va b o)=w.frozen? (Va b o):=World.frozen?_of_block (a:=Va b o) (h.block b hb hn)
theorem Ft.arr(h:Ft t w w'){f:Nat->Value}(ha:A9 w b n f)(hn:b≠t):A9 w' b n f:=
 ⟨jI ha.1 h.size,fun i=>(h.frozen ha.1 hn).trans (ha.2.1 i),fun i hi=>(h.cell ha.1 hn).trans (ha.2.2 i hi)⟩
theorem Ft.cl(h:Ft t w w'){vs:List Value}(ha:Cl w b vs)(hn:b≠t):Cl w' b vs:=
 ⟨jI ha.1 h.size,fun i hi=>(h.cell ha.1 hn).trans (ha.2 i hi)⟩
structure IZ(w:World)(t b n cap:Nat)(own procs dmax err pos:Int):Prop where
 C:Cl w t [Vs b n cap,Vi own,Vi procs,Vi dmax,Vi err,Vi pos]
 F:∀i,w.frozen? (Va t i)=false
theorem IZ.below(h:IZ w t b n cap own procs dmax err pos)(hb:Below w.heap.size w w'):IZ w' t b n cap own procs dmax err pos:=
 ⟨h.C.below hb,fun i=>(hb.frozen (p:=Va t i) h.C.1).trans (h.F i)⟩
theorem Dq(h:IZ w t b n cap own procs dmax err pos):w.cell? (Va t 0)=some (Vs b n cap)/\w.cell? (Va t 1)=some (Vi own)/\w.cell? (Va t 2)=some (Vi procs)/\w.cell? (Va t 3)=some (Vi dmax)/\w.cell? (Va t 4)=some (Vi err)/\w.cell? (Va t 5)=some (Vi pos):=
 ⟨h.C.2 0 (by simp),h.C.2 1 (by simp),h.C.2 2 (by simp),h.C.2 3 (by simp),h.C.2 4 (by simp),h.C.2 5 (by simp)⟩
theorem IZ.setPos(h:IZ w t b n cap own procs dmax err pos)(x:Int):IZ (w.setCell (Va t 5) (Vi x)) t b n cap own procs dmax err x:=by
 obtain⟨c0,c1,c2,c3,c4,c5⟩:=Dq h;refine⟨⟨by simpa using h.C.1,fun i hi=>?_⟩,fun i=>by simpa using h.F i⟩;match i,hi with
 |0,_=>simp[go_sem,c0]
 |1,_=>simp[go_sem,c1]
 |2,_=>simp[go_sem,c2]
 |3,_=>simp[go_sem,c3]
 |4,_=>simp[go_sem,c4]
 |5,_=>simp[go_sem,c5]
theorem IZ.setErr(h:IZ w t b n cap own procs dmax err pos)(x:Int):IZ (w.setCell (Va t 4) (Vi x)) t b n cap own procs dmax x pos:=by
 obtain⟨c0,c1,c2,c3,c4,c5⟩:=Dq h;refine⟨⟨by simpa using h.C.1,fun i hi=>?_⟩,fun i=>by simpa using h.F i⟩;match i,hi with
 |0,_=>simp[go_sem,c0]
 |1,_=>simp[go_sem,c1]
 |2,_=>simp[go_sem,c2]
 |3,_=>simp[go_sem,c3]
 |4,_=>simp[go_sem,c4]
 |5,_=>simp[go_sem,c5]
def Jw(L:Nat->SV)(m:Nat)(w:World)(S:Nat->Prop)(x:Value)(p:Nat):Prop:=
 ((L p).k=1/\x=.iface 114 (.agg #[Vi (p:Int),Vi (L p).op,Vi (L p).d,Vi (L p).a,Vi (L p).b,Vi (L p).imm,Vi (L p).h]))∨
 ((L p).k=2/\∃v1 v2,x=.iface 117 (.agg #[Vi (p:Int),Vi (L p).cond,v1,v2])/\Dg L m w S v1 (p+1) (p+1+(L p).thn.toNat)/\Dg L m w S v2 (p+1+(L p).thn.toNat) (p+1+(L p).thn.toNat+(L p).els.toNat))∨
 ((L p).k=3/\∃v1,x=.iface 120 (.agg #[Vi (p:Int),Vi (L p).cond,v1])/\Dg L m w S v1 (p+1) (p+1+(L p).thn.toNat))∨
 ((L p).k=4/\x=.iface 122 (.agg #[Vi (L p).proc]))
def MR(L:Nat->SV)(t b n cap:Nat)(own procs dmax:Int)(m i te:Nat)(depth:Int):Prop:=
 ∀w,A9 w b (n*11) (IU L)->IZ w t b n cap own procs dmax 0 (i:Int)->Calls Tryz.prog 39 #[Vq t,Vi ((te:Int)-(i:Int)),Vi depth] w fun e w'=>∃(ao:Option Addr)(k c:Nat),e=.returned (.slice ao k c)/\Ft t w w'/\IZ w' t b n cap own procs dmax (CZ L own procs (dmax+1) i te depth).1 (if(CZ L own procs (dmax+1) i te depth).1=0 then(te:Int)else(CZ L own procs (dmax+1) i te depth).2)/\((CZ L own procs (dmax+1) i te depth).1=0->Dg L m w' (fun q=>w.heap.size<=q) (.slice ao k c) i te)
theorem He(L:Nat->SV)(t b n cap:Nat)(own procs dmax:Int)(m p:Nat)(depth:Int)(w:World)(p0:p<=1048576)(hT:IZ w t b n cap own procs dmax 0 (p:Int))(hk:(L p).k=1∨(L p).k=4):
 Calls Tryz.prog 70 #[Vq t,.agg #[Vi (L p).k,Vi (L p).op,Vi (L p).d,Vi (L p).a,Vi (L p).b,Vi (L p).imm,Vi (L p).h,Vi (L p).cond,Vi (L p).thn,Vi (L p).els,Vi (L p).proc],Vi depth] w fun e w'=>∃ty a,e=.returned (.iface ty a)/\Ft t w w'/\IZ w' t b n cap own procs dmax 0 ((p:Int)+1)/\Jw L m w' (fun q=>w.heap.size<=q) (.iface ty a) p:=by
 have HT:=hxy hT;have lt:=hT.C.1;clear hT;go_enter Tryz.func70,Tryz.ntmps70;go_upto_region 1 with fail;obtain⟨u,hu,hb,hc⟩:∃x,w.alloc (.cells #[Vi (L p).k,Vi (L p).op,Vi (L p).d,Vi (L p).a,Vi (L p).b,Vi (L p).imm,Vi (L p).h,Vi (L p).cond,Vi (L p).thn,Vi (L p).els,Vi (L p).proc] 89)=x/\Below w.heap.size w x/\Cl x w.heap.size [Vi (L p).k,Vi (L p).op,Vi (L p).d,Vi (L p).a,Vi (L p).b,Vi (L p).imm,Vi (L p).h,Vi (L p).cond,Vi (L p).thn,Vi (L p).els,Vi (L p).proc]:=⟨_,rfl,Ak,Cl.new⟩
 rw[hu];have T0:=hxy (HT.out.below hb);have C0:=hxy hc;have F0:Hid (Ft t w u):=Ft.of_below hb;clear hu hb hc HT;obtain⟨q0,q1,q2,q3,q4,q5⟩:=Dq T0.out;have tf:=T0.out.F;have tl:=T0.out.C.1;go_upto_region 3 with fail;clear q0 q1 q2 q3 q4 q5 tf tl;obtain⟨u1,hu1,T1,F1,C1⟩:∃x,u.setCell (Va t 5) (Vi ((p:Int)+1))=x/\Hid (IZ x t b n cap own procs dmax 0 ((p:Int)+1))/\Hid (Ft t w x)/\Hid (Cl x w.heap.size [Vi (L p).k,Vi (L p).op,Vi (L p).d,Vi (L p).a,Vi (L p).b,Vi (L p).imm,Vi (L p).h,Vi (L p).cond,Vi (L p).thn,Vi (L p).els,Vi (L p).proc]):=⟨_,rfl,T0.out.setPos _,F0.out.set _ _,⟨by simpa using C0.out.1,fun i hi=>(World.cell?_setCell_far _ _ _ _ (show t≠w.heap.size by omega)).trans (C0.out.2 i hi)⟩⟩
 rw[hu1];clear hu1 T0 F0 C0;obtain⟨c0,c1,c2,c3,c4,c5,c6,c7,c8,c9,c10⟩:=Gx C1.out;have cz:=C1.out.1;rcases hk with k1|k4
 ·have e2:((L p).k==2)=false:=by simp[k1]
  have e3:((L p).k==3)=false:=by simp[k1]
  have e4:((L p).k==4)=false:=by simp[k1]
  have K:=hxy k1;clear k1;go_wp2;go_ret;exact⟨_,_,rfl,F1.out,T1.out,.inl ⟨K.out,rfl⟩⟩
 ·have e2:((L p).k==2)=false:=by simp[k4]
  have e3:((L p).k==3)=false:=by simp[k4]
  have e4:((L p).k==4)=true:=by simp[k4]
  have K:=hxy k4;clear k4;go_wp2;go_ret;exact⟨_,_,rfl,F1.out,T1.out,.inr (.inr (.inr ⟨K.out,rfl⟩))⟩
theorem Ft.drew{b:World}(h:Ft t a b):Ft t a b.drew:=⟨h.os,h.tape,h.output,h.size,h.block⟩
def NU(L:Nat->SV)(own procs dmax:Int)(p:Nat)(depth:Int):Int×Int:=
 if(CZ L own procs (dmax+1) (p+1) (p+1+(L p).thn.toNat) (depth+1)).1≠0 then CZ L own procs (dmax+1) (p+1) (p+1+(L p).thn.toNat) (depth+1)
 else if(CZ L own procs (dmax+1) (p+1+(L p).thn.toNat) (p+1+(L p).thn.toNat+(L p).els.toNat) (depth+1)).1≠0 then CZ L own procs (dmax+1) (p+1+(L p).thn.toNat) (p+1+(L p).thn.toNat+(L p).els.toNat) (depth+1)
 else(0,((p+1+(L p).thn.toNat+(L p).els.toNat:Nat):Int))
def ZJ(L:Nat->SV)(t b n cap:Nat)(own procs dmax:Int)(m p:Nat)(depth:Int):Prop:=
 ∀w,A9 w b (n*11) (IU L)->IZ w t b n cap own procs dmax 0 (p:Int)->Calls Tryz.prog 70 #[Vq t,.agg #[Vi (L p).k,Vi (L p).op,Vi (L p).d,Vi (L p).a,Vi (L p).b,Vi (L p).imm,Vi (L p).h,Vi (L p).cond,Vi (L p).thn,Vi (L p).els,Vi (L p).proc],Vi depth] w fun e w'=>∃ty a,e=.returned (.iface ty a)/\Ft t w w'/\IZ w' t b n cap own procs dmax (NU L own procs dmax p depth).1 (NU L own procs dmax p depth).2/\((NU L own procs dmax p depth).1=0->Jw L m w' (fun q=>w.heap.size<=q) (.iface ty a) p)
theorem SQ(t b n cap:Nat)(own procs dmax err pos size depth:Int)(w:World)(hT:IZ w t b n cap own procs dmax err pos)(he:err≠0):
 Calls Tryz.prog 39 #[Vq t,Vi size,Vi depth] w fun e w'=>e=.returned (.slice none 0 0)/\w'=w:=by
 obtain⟨q0,q1,q2,q3,q4,q5⟩:=Dq hT;have tl:=hT.C.1;have e0:(err==0)=false:=by simp[he]
 have HE:=hxy he;clear hT he;go_enter Tryz.func39,Tryz.ntmps39;go_wp2;go_loopw [7](fun mv wr=>mv=.slice none 0 0/\wr=w)(fun _ _=>0)
 case atStart=>exact⟨rfl,rfl⟩
 case round=>
  obtain⟨rfl,rfl⟩:=hrel;go_wp2;go_ret;exact⟨rfl,rfl⟩
theorem Nt(L:Nat->SV)(t b n cap:Nat)(own procs dmax:Int)(m p:Nat)(depth:Int)(p0:p<=1048576)(d0:0<=depth)(d1:depth<=1099511627776)(hbt:b≠t)(hk:(L p).k=3)(th:0<=(L p).thn)(el:(L p).els=0)
 (h1:MR L t b n cap own procs dmax m (p+1) (p+1+(L p).thn.toNat) (depth+1)):ZJ L t b n cap own procs dmax m p depth:=by
 intro w hA hT;have H1:Hid _:=h1;clear h1;have e2:((L p).k==2)=false:=by simp[hk]
 have e3:((L p).k==3)=true:=by simp[hk]
 have K:=hxy hk;have EL:=hxy el;clear hk el;have HT:=hxy hT;have HA:=hxy hA;have lt:=hT.C.1;have lb:=hA.1;clear hT hA;go_enter Tryz.func70,Tryz.ntmps70;go_upto_region 1 with fail;obtain⟨u,hu,hb,hc⟩:∃x,w.alloc (.cells #[Vi (L p).k,Vi (L p).op,Vi (L p).d,Vi (L p).a,Vi (L p).b,Vi (L p).imm,Vi (L p).h,Vi (L p).cond,Vi (L p).thn,Vi (L p).els,Vi (L p).proc] 89)=x/\Below w.heap.size w x/\Cl x w.heap.size [Vi (L p).k,Vi (L p).op,Vi (L p).d,Vi (L p).a,Vi (L p).b,Vi (L p).imm,Vi (L p).h,Vi (L p).cond,Vi (L p).thn,Vi (L p).els,Vi (L p).proc]:=⟨_,rfl,Ak,Cl.new⟩
 rw[hu];have T0:=hxy (HT.out.below hb);have C0:=hxy hc;have F0:Hid (Ft t w u):=Ft.of_below hb;clear hu hb hc HT;obtain⟨q0,q1,q2,q3,q4,q5⟩:=Dq T0.out;have tf:=T0.out.F;have tl:=T0.out.C.1;go_upto_region 3 with fail;clear q0 q1 q2 q3 q4 q5 tf tl;obtain⟨u1,hu1,T1,F1,C1⟩:∃x,u.setCell (Va t 5) (Vi ((p:Int)+1))=x/\Hid (IZ x t b n cap own procs dmax 0 ((p:Int)+1))/\Hid (Ft t w x)/\Hid (Cl x w.heap.size [Vi (L p).k,Vi (L p).op,Vi (L p).d,Vi (L p).a,Vi (L p).b,Vi (L p).imm,Vi (L p).h,Vi (L p).cond,Vi (L p).thn,Vi (L p).els,Vi (L p).proc]):=⟨_,rfl,T0.out.setPos _,F0.out.set _ _,⟨by simpa using C0.out.1,fun i hi=>(World.cell?_setCell_far _ _ _ _ (show t≠w.heap.size by omega)).trans (C0.out.2 i hi)⟩⟩
 rw[hu1];clear hu1 T0 F0 C0;have A1:=hxy (F1.out.arr HA.out hbt);have nt:w.heap.size≠t:=by omega
 clear HA;obtain⟨c0,c1,c2,c3,c4,c5,c6,c7,c8,c9,c10⟩:=Gx C1.out;have cz:=C1.out.1;go_upto_region 8 with fail;clear c0 c1 c2 c3 c4 c5 c6 c7 c8 c9 c10;have fd:IntKind.i64.wrap (depth+1)=depth+1:=by rw[IntKind.wrap_i64];omega
 have r7:∀w',Ft t u1 w'->w'.cell? ⟨w.heap.size,7,none⟩=some (Vi (L p).cond):=fun w' h=>(h.cl C1.out nt).2 7 (by simp)
 have r8:∀w',Ft t u1 w'->w'.cell? ⟨w.heap.size,8,none⟩=some (Vi (L p).thn):=fun w' h=>(h.cl C1.out nt).2 8 (by simp)
 refine wp_region_held_drew (S:=fun w'=>Ft t u1 w') (by kernel_rfl) (Ft.refl _ _).drew (fun hd0=>?_);have TD:Hid (IZ u1.drew t b n cap own procs dmax 0 ((p:Int)+1)):=T1.out.below (Below.refl _ _).drew;have AD:=hxy (hd0.arr A1.out hbt);generalize u1.drew=v0 at hd0 TD AD⊢;refine AB 0 rfl ?_;refine AB 1 rfl ?_;refine AB 2 rfl ?_;refine AB 3 rfl ?_;refine AB 4 rfl ?_;refine AB 5 rfl ?_;refine AB 6 rfl ?_;refine AB 7 rfl ?_;refine AO 8 rfl (fun KK hK=>?_);go_simp;have hc:=H1.out v0 AD.out (by rw[show((p+1:Nat):Int)=(p:Int)+1 by omega];exact TD.out);rw[show(((p+1+(L p).thn.toNat:Nat):Int)-((p+1:Nat):Int))=(L p).thn by omega]at hc;refine hc.mono ?_;rintro e w1⟨ao1,k1,cap1,rfl,hf1,ht1,hr1⟩;have hd1:=hd0.trans hf1;have TT:=hxy ht1;have RR:=hxy hr1;have SZ:Hid (w.heap.size<=v0.heap.size):=Nat.le_trans F1.out.size hd0.size;clear hc hf1 ht1 hr1;go_wp2_with fail;refine hK.out _ _ hd1 (fun hHeld=>?_);clear hK KK;try simp only[Act.put,BP,BN,BK,BQ,BS,BM]
 refine AB 9 rfl ?_;refine AB 10 rfl ?_;refine AB 11 rfl ?_;refine wpAnyH_done (by kernel_rfl) ?_ _;clear r7 r8 hHeld;go_wp2;go_ret;have hs2:NU L own procs dmax p depth=if(CZ L own procs (dmax+1) (p+1) (p+1+(L p).thn.toNat) (depth+1)).1≠0 then CZ L own procs (dmax+1) (p+1) (p+1+(L p).thn.toNat) (depth+1)else(0,((p+1+(L p).thn.toNat:Nat):Int)):=by
  unfold NU;rw[EL.out,JR (by simp:¬p+1+(L p).thn.toNat<p+1+(L p).thn.toNat+(0:Int).toNat)];simp
 rw[hs2];refine⟨_,_,rfl,F1.out.trans hd1,?_,fun h=>?_⟩
 ·by_cases hz:(CZ L own procs (dmax+1) (p+1) (p+1+(L p).thn.toNat) (depth+1)).1=0
  ·have:=TT.out
   rw[if_pos hz,hz]at this;rw[if_neg (by simpa using hz)];exact this
  ·have:=TT.out
   rw[if_neg hz]at this;rw[if_pos hz];exact this
 ·refine .inr (.inr (.inl ⟨K.out,_,rfl,(RR.out ?_).kept (fun q h=>Nat.le_trans SZ.out h) (fun _ _ _=>rfl)⟩))
  by_cases hz:(CZ L own procs (dmax+1) (p+1) (p+1+(L p).thn.toNat) (depth+1)).1=0
  ·exact hz
  ·rw[if_pos hz]at h;exact h
theorem Nv(L:Nat->SV)(t b n cap:Nat)(own procs dmax:Int)(m p:Nat)(depth:Int)(p0:p<=1048576)(d0:0<=depth)(d1:depth<=1099511627776)(hbt:b≠t)(hk:(L p).k=2)(th:0<=(L p).thn)(el:0<=(L p).els)
 (h1:MR L t b n cap own procs dmax m (p+1) (p+1+(L p).thn.toNat) (depth+1))(h2:MR L t b n cap own procs dmax m (p+1+(L p).thn.toNat) (p+1+(L p).thn.toNat+(L p).els.toNat) (depth+1)):ZJ L t b n cap own procs dmax m p depth:=by
 intro w hA hT;have H1:Hid _:=h1;have H2:Hid _:=h2;clear h1 h2;have e2:((L p).k==2)=true:=by simp[hk]
 have K:=hxy hk;clear hk;have HT:=hxy hT;have HA:=hxy hA;have lt:=hT.C.1;have lb:=hA.1;clear hT hA;go_enter Tryz.func70,Tryz.ntmps70;go_upto_region 1 with fail;obtain⟨u,hu,hb,hc⟩:∃x,w.alloc (.cells #[Vi (L p).k,Vi (L p).op,Vi (L p).d,Vi (L p).a,Vi (L p).b,Vi (L p).imm,Vi (L p).h,Vi (L p).cond,Vi (L p).thn,Vi (L p).els,Vi (L p).proc] 89)=x/\Below w.heap.size w x/\Cl x w.heap.size [Vi (L p).k,Vi (L p).op,Vi (L p).d,Vi (L p).a,Vi (L p).b,Vi (L p).imm,Vi (L p).h,Vi (L p).cond,Vi (L p).thn,Vi (L p).els,Vi (L p).proc]:=⟨_,rfl,Ak,Cl.new⟩
 rw[hu];have T0:=hxy (HT.out.below hb);have C0:=hxy hc;have F0:Hid (Ft t w u):=Ft.of_below hb;clear hu hb hc HT;obtain⟨q0,q1,q2,q3,q4,q5⟩:=Dq T0.out;have tf:=T0.out.F;have tl:=T0.out.C.1;go_upto_region 3 with fail;clear q0 q1 q2 q3 q4 q5 tf tl;obtain⟨u1,hu1,T1,F1,C1⟩:∃x,u.setCell (Va t 5) (Vi ((p:Int)+1))=x/\Hid (IZ x t b n cap own procs dmax 0 ((p:Int)+1))/\Hid (Ft t w x)/\Hid (Cl x w.heap.size [Vi (L p).k,Vi (L p).op,Vi (L p).d,Vi (L p).a,Vi (L p).b,Vi (L p).imm,Vi (L p).h,Vi (L p).cond,Vi (L p).thn,Vi (L p).els,Vi (L p).proc]):=⟨_,rfl,T0.out.setPos _,F0.out.set _ _,⟨by simpa using C0.out.1,fun i hi=>(World.cell?_setCell_far _ _ _ _ (show t≠w.heap.size by omega)).trans (C0.out.2 i hi)⟩⟩
 rw[hu1];clear hu1 T0 F0 C0;have A1:=hxy (F1.out.arr HA.out hbt);have nt:w.heap.size≠t:=by omega
 clear HA;obtain⟨c0,c1,c2,c3,c4,c5,c6,c7,c8,c9,c10⟩:=Gx C1.out;have cz:=C1.out.1;go_wp2_with fail;clear c0 c1 c2 c3 c4 c5 c6 c7 c8 c9 c10;have hc:=H1.out u1 A1.out (by rw[show((p+1:Nat):Int)=(p:Int)+1 by omega];exact T1.out);rw[show(((p+1+(L p).thn.toNat:Nat):Int)-((p+1:Nat):Int))=(L p).thn by omega]at hc;refine hc.mono ?_;rintro e w1⟨ao1,k1,cap1,rfl,hf1,ht1,hr1⟩;obtain⟨x1,hx1⟩:=Ae (CZ L own procs (dmax+1) (p+1) (p+1+(L p).thn.toNat) (depth+1));rw[hx1]at ht1 hr1;have X1:=hxy hx1;have FA:=hxy (F1.out.trans hf1);have TA:=hxy ht1;have RA:=hxy hr1;have AA:=hxy (hf1.arr A1.out hbt);have CA:=hxy (hf1.cl C1.out nt);have SZ:=hxy F1.out.size;have SZ1:=hxy hf1.size;clear hc hf1 ht1 hr1 hx1 A1 F1 C1 T1 cz;have cz:=CA.out.1;go_upto_region 6 with fail;have fd:IntKind.i64.wrap (depth+1)=depth+1:=by rw[IntKind.wrap_i64];omega
 have r7:∀w',Ft t w1 w'->w'.cell? ⟨w.heap.size,7,none⟩=some (Vi (L p).cond):=fun w' h=>(h.cl CA.out nt).2 7 (by simp)
 have r9:∀w',Ft t w1 w'->w'.cell? ⟨w.heap.size,9,none⟩=some (Vi (L p).els):=fun w' h=>(h.cl CA.out nt).2 9 (by simp)
 refine wp_region_held_drew (S:=fun w'=>Ft t w1 w') (by kernel_rfl) (Ft.refl _ _).drew (fun hd0=>?_);have TD:Hid (IZ w1.drew t b n cap own procs dmax x1.1 (if x1.1=0 then((p+1+(L p).thn.toNat:Nat):Int)else x1.2)):=TA.out.below (Below.refl _ _).drew;have AD:=hxy (hd0.arr AA.out hbt);generalize w1.drew=v0 at hd0 TD AD⊢;refine AB 0 rfl ?_;refine AB 1 rfl ?_;refine AB 2 rfl ?_;refine AB 3 rfl ?_;refine AB 4 rfl ?_;refine AB 5 rfl ?_;refine AB 6 rfl ?_;refine AB 7 rfl ?_;refine AB 8 rfl ?_;refine AO 9 rfl (fun KK hK=>?_);go_simp;obtain⟨x2,hx2⟩:=Ae (CZ L own procs (dmax+1) (p+1+(L p).thn.toNat) (p+1+(L p).thn.toNat+(L p).els.toNat) (depth+1));have X2:=hxy hx2;have hcall:Calls Tryz.prog 39 #[Vq t,Vi (L p).els,Vi (depth+1)] v0 fun e w'=>∃(ao2:Option Addr)(k2 cap2:Nat),e=.returned (.slice ao2 k2 cap2)/\Ft t v0 w'/\IZ w' t b n cap own procs dmax (NU L own procs dmax p depth).1 (NU L own procs dmax p depth).2/\((NU L own procs dmax p depth).1=0->x1.1=0/\Dg L m w' (fun q=>v0.heap.size<=q) (.slice ao2 k2 cap2) (p+1+(L p).thn.toNat) (p+1+(L p).thn.toNat+(L p).els.toNat)):=by
  have hs:NU L own procs dmax p depth=if x1.1≠0 then x1 else if x2.1≠0 then x2 else(0,((p+1+(L p).thn.toNat+(L p).els.toNat:Nat):Int)):=by unfold NU;rw[X1.out,hx2]
  rw[hs];by_cases hz:x1.1=0
  ·have ht:=TD.out
   rw[if_pos hz,hz]at ht;have hc:=H2.out v0 AD.out ht;rw[show(((p+1+(L p).thn.toNat+(L p).els.toNat:Nat):Int)-((p+1+(L p).thn.toNat:Nat):Int))=(L p).els by omega,hx2]at hc;refine hc.mono ?_;rintro e w2⟨ao2,k2,cap2,rfl,hf2,ht2,hr2⟩;rw[if_neg (by simpa using hz)];refine⟨_,_,_,rfl,hf2,?_,fun h=>⟨hz,hr2 ?_⟩⟩
   ·by_cases hy:x2.1=0
    ·rw[if_pos hy,hy]at ht2
     rw[if_neg (by simpa using hy)];exact ht2
    ·rw[if_neg hy]at ht2
     rw[if_pos hy];exact ht2
   ·by_cases hy:x2.1=0
    ·exact hy
    ·rw[if_pos hy]at h;exact h
  ·have ht:=TD.out
   rw[if_neg hz]at ht;refine(SQ t b n cap own procs dmax _ _ _ _ v0 ht hz).mono ?_;rintro e w2⟨rfl,rfl⟩;rw[if_pos hz];exact⟨_,_,_,rfl,Ft.refl _ _,ht,fun h=>absurd h hz⟩
 refine hcall.mono ?_;clear hcall hx2;rintro e w2⟨ao2,k2,cap2,rfl,hf2,ht2,hr2⟩;have hd1:=hd0.trans hf2;have TT:=hxy ht2;have RR:=hxy hr2;have FZ:=hxy hd0.size;clear hf2 ht2 hr2;go_wp2_with fail;refine hK.out _ _ hd1 (fun hHeld=>?_);clear hK KK;try simp only[Act.put,BP,BN,BK,BQ,BS,BM]
 refine AB 10 rfl ?_;refine AB 11 rfl ?_;refine AB 12 rfl ?_;refine wpAnyH_done (by kernel_rfl) ?_ _;clear r7 r9 hHeld;go_wp2;go_ret;refine⟨_,_,rfl,FA.out.trans hd1,TT.out,fun h=>?_⟩;obtain⟨hz,hr⟩:=RR.out h;have z1:=SZ.out;have z2:=SZ1.out;have z3:=FZ.out;refine .inr (.inl ⟨K.out,_,_,rfl,(RA.out hz).kept (fun q h=>Nat.le_trans z1 h) (fun q h hq=>hd1.block q hq (by omega)),hr.kept (fun q h=>by omega) (fun _ _ _=>rfl)⟩)
theorem Dg.kept2{S S':Nat->Prop}(hs:∀b,S b->b<w.heap.size->S' b)(hk:∀b,S b->b<w.heap.size->w'.heap[b]?=w.heap[b]?):∀(m:Nat){v:Value}{i te:Nat},Dg L m w S v i te->Dg L m w' S' v i te
 |0,_,_,_,h=>h
 |m+1,v,i,te,h=>by
  obtain⟨xs,⟨hr,hb⟩,hl,hx⟩:=h;refine⟨xs,⟨⟨hr.1,?_⟩,fun b h=>hs b (hb b h) (hr.lt b h).2⟩,hl,fun k x p h1 h2=>?_⟩
  ·rcases hr.2 with h|⟨g,cap,cur,rfl,h1,h2,h3⟩
   ·exact .inl h
   ·have hg:g<w.heap.size:=(jH.1 h2).1
    exact .inr ⟨g,cap,cur,rfl,h1,(hk g (hb g rfl) hg).trans h2,h3⟩
  ·rcases hx k x p h1 h2 with q|⟨q,v1,v2,e,r1,r2⟩|⟨q,v1,e,r1⟩|q
   ·exact .inl q
   ·exact .inr (.inl ⟨q,v1,v2,e,r1.kept2 hs hk m,r2.kept2 hs hk m⟩)
   ·exact .inr (.inr (.inl ⟨q,v1,e,r1.kept2 hs hk m⟩))
   ·exact .inr (.inr (.inr q))
theorem Jw.kept2{S S':Nat->Prop}{x:Value}(h:Jw L m w S x p)(hs:∀b,S b->b<w.heap.size->S' b)(hk:∀b,S b->b<w.heap.size->w'.heap[b]?=w.heap[b]?):Jw L m w' S' x p:=by
 rcases h with q|⟨q,v1,v2,e,r1,r2⟩|⟨q,v1,e,r1⟩|q
 ·exact .inl q
 ·exact .inr (.inl ⟨q,v1,v2,e,r1.kept2 hs hk m,r2.kept2 hs hk m⟩)
 ·exact .inr (.inr (.inl ⟨q,v1,e,r1.kept2 hs hk m⟩))
 ·exact .inr (.inr (.inr q))
def eH(t te:Nat)(w:World):Nat:=if intOf ((w.cell? (Va t 4)).getD undef)=0 then((te:Int)+1-intOf ((w.cell? (Va t 5)).getD undef)).toNat else 0
theorem Lf(te:Nat)(h:IZ w t b n cap own procs dmax err pos):eH t te w=if err=0 then((te:Int)+1-pos).toNat else 0:=by
 obtain⟨_,_,_,_,c4,c5⟩:=Dq h;unfold eH;rw[c4,c5];rfl
theorem Lu{room:Int}(h:DL s own procs dmax room depth=0):BG s procs=true/\s.thn<=room/\s.els<=room-s.thn/\¬((s.k=2∨s.k=3)/\dmax<depth)/\¬(s.k=4/\s.proc<=own):=by
 unfold DL at h;by_cases h1:BG s procs=false
 ·rw[if_pos h1]at h;exact absurd h (by decide)
 by_cases h2:room<s.thn∨room-s.thn<s.els
 ·rw[if_neg h1,if_pos h2]at h;exact absurd h (by decide)
 by_cases h3:(s.k=2∨s.k=3)/\dmax<depth
 ·rw[if_neg h1,if_neg h2,if_pos h3]at h;exact absurd h (by decide)
 by_cases h4:s.k=4/\s.proc<=own
 ·rw[if_neg h1,if_neg h2,if_neg h3,if_pos h4]at h;exact absurd h (by decide)
 exact⟨by simpa using h1,by omega,by omega,h3,h4⟩
theorem KT(h:p<te):CZ L own procs (dmax+1) p te depth=if DL (L p) own procs dmax ((te:Int)-(p:Int)-1) depth≠0 then(DL (L p) own procs dmax ((te:Int)-(p:Int)-1) depth,(p:Int))else if(NU L own procs dmax p depth).1≠0 then NU L own procs dmax p depth else CZ L own procs (dmax+1) (p+1+(L p).thn.toNat+(L p).els.toNat) te depth:=by
 unfold DL;by_cases h1:BG (L p) procs=false
 ·rw[Lc h h1,if_pos h1,if_pos (by decide)]
 obtain⟨tp,ep⟩:=KN (by simpa using h1:BG (L p) procs=true);by_cases h2:(te:Int)-(p:Int)-1<(L p).thn∨(te:Int)-(p:Int)-1-(L p).thn<(L p).els
 ·rw[Fx h h1 (by omega),if_neg h1,if_pos h2,if_pos (by decide)]
 have h2':p+1+(L p).thn.toNat+(L p).els.toNat<=te:=by omega
 by_cases h3:((L p).k=2∨(L p).k=3)/\dmax<depth
 ·rw[Gs h h1 h2' ⟨h3.1,by omega⟩,if_neg h1,if_neg h2,if_pos h3,if_pos (by decide)]
 have h3':¬(((L p).k=2∨(L p).k=3)/\dmax+1<=depth):=fun g=>h3 ⟨g.1,by omega⟩
 by_cases h4:(L p).k=4/\(L p).proc<=own
 ·rw[LX h h1 h2' h3' h4,if_neg h1,if_neg h2,if_neg h3,if_pos h4,if_pos (by decide)]
 rw[JU h h1 h2' h3' h4,if_neg h1,if_neg h2,if_neg h3,if_neg h4,if_neg (show¬((0:Int)≠0)by decide)];unfold NU;by_cases z1:(CZ L own procs (dmax+1) (p+1) (p+1+(L p).thn.toNat) (depth+1)).1≠0
 ·rw[if_pos z1,if_pos z1,if_pos z1]
 rw[if_neg z1,if_neg z1];by_cases z2:(CZ L own procs (dmax+1) (p+1+(L p).thn.toNat) (p+1+(L p).thn.toNat+(L p).els.toNat) (depth+1)).1≠0
 ·rw[if_pos z2,if_pos z2,if_pos z2]
 rw[if_neg z2,if_neg z2,if_neg (by simp)]
theorem Yl(h:(NU L own procs dmax p depth).1=0):NU L own procs dmax p depth=(0,((p+1+(L p).thn.toNat+(L p).els.toNat:Nat):Int)):=by
 unfold NU at h⊢;by_cases z1:(CZ L own procs (dmax+1) (p+1) (p+1+(L p).thn.toNat) (depth+1)).1≠0
 ·rw[if_pos z1]at h;exact absurd h z1
 rw[if_neg z1]at h⊢;by_cases z2:(CZ L own procs (dmax+1) (p+1+(L p).thn.toNat) (p+1+(L p).thn.toNat+(L p).els.toNat) (depth+1)).1≠0
 ·rw[if_pos z2]at h;exact absurd h z2
 rw[if_neg z2]
theorem SA(h1:(L p).thn=0)(h2:(L p).els=0):NU L own procs dmax p depth=(0,(p:Int)+1):=by
 unfold NU;rw[h1,h2,JR (by simp),JR (by simp)];simp
theorem Cw{base e size:Nat}{v:Value}(h:w.ownsRow base e size v n xs):∃(ao:Option Addr)(k c:Nat),v=.slice ao k c:=by
 rcases h.2 with⟨h',_⟩|⟨g,cap,cur,rfl,_⟩
 ·exact⟨_,_,_,h'⟩
 ·exact⟨_,_,_,rfl⟩
def BInv(L:Nat->SV)(t b n cap:Nat)(own procs dmax:Int)(m i te:Nat)(depth:Int)(w:World)(mv:Value)(wr:World):Prop:=
 ∃(xs:List Value)(errv posv:Int),Ft t w wr/\IZ wr t b n cap own procs dmax errv posv/\wr.ownsRow 0 112 1 mv xs.length xs/\(∀g,mv.ownBlock=some g->w.heap.size<=g)/\((errv≠0/\CZ L own procs (dmax+1) i te depth=(errv,posv))∨(errv=0/\∃(p:Nat)(dn:List Nat),posv=(p:Int)/\i<=p/\p<=te/\CZ L own procs (dmax+1) p te depth=CZ L own procs (dmax+1) i te depth/\ER L i te=dn++ER L p te/\xs.length=dn.length/\xs.length<=p/\∀(k:Nat)(x:Value)(q:Nat),xs[k]?=some x->dn[k]?=some q->Jw L m wr (fun g=>w.heap.size<=g/\mv.ownBlock≠some g) x q))
theorem BInv.ends{errv posv:Int}{res:Int×Int}{ps:Int}(hres:CZ L own procs (dmax+1) i te depth=res)(hps:(if res.1=0 then(te:Int)else res.2)=ps)(f:Ft t w wr)(T:IZ wr t b n cap own procs dmax errv posv)(o:wr.ownsRow 0 112 1 mv xs.length xs)(ob:∀g,mv.ownBlock=some g->w.heap.size<=g)
 (hc:(errv≠0/\CZ L own procs (dmax+1) i te depth=(errv,posv))∨(errv=0/\posv=(te:Int)/\∃dn:List Nat,CZ L own procs (dmax+1) i te depth=(0,0)/\ER L i te=dn/\xs.length=dn.length/\∀(k:Nat)(x:Value)(q:Nat),xs[k]?=some x->dn[k]?=some q->Jw L m wr (fun g=>w.heap.size<=g/\mv.ownBlock≠some g) x q)):
 ∃(ao:Option Addr)(k c:Nat),(Ending.returned mv)=.returned (.slice ao k c)/\Ft t w wr/\IZ wr t b n cap own procs dmax res.1 ps/\(res.1=0->Dg L (m+1) wr (fun q=>w.heap.size<=q) (.slice ao k c) i te):=by
 subst hps hres;obtain⟨ao,k,c,rfl⟩:=Cw o;refine⟨ao,k,c,rfl,f,?_,fun h0=>?_⟩
 ·rcases hc with⟨h1,h2⟩|⟨h1,h2,dn,h3,_⟩
  ·rw[h2]
   simp only[if_neg h1];exact T
  ·rw[h3]
   simp only[if_true];rw[<-h1,<-h2];exact T
 ·rcases hc with⟨h1,h2⟩|⟨h1,h2,dn,h3,h4,h5,h6⟩
  ·rw[h2]at h0;exact absurd h0 h1
  ·refine⟨xs,⟨o,ob⟩,by rw[h4];exact h5,fun k x p hk hp=>?_⟩
   rw[h4]at hp;exact(h6 k x p hk hp).kept2 (fun b h _=>h.1) (fun _ _ _=>rfl)
theorem MS:(Tryz.prog.info? 112).map (fun i=>(i.zero,i.size,i.bytes))=some (some .nilIface,1,16):=by kernel_rfl
theorem Ft.grown{u:World}{ob:Option Nat}(h:Ft t w u)(g:u.grownBy w1 ob)(ho:∀k,ob=some k->w.heap.size<=k):Ft t w w1:=
 ⟨g.os.trans h.os,g.tape.trans h.tape,g.output.trans h.output,Nat.le_trans h.size g.size,fun k hk hn=>(g.block k (jI hk h.size) (fun e=>by have:=ho k e.symm;omega)).trans (h.block k hk hn)⟩
theorem IZ.grown{u:World}{ob:Option Nat}(h:IZ u t b n cap own procs dmax err pos)(g:u.grownBy w1 ob)(ho:ob≠some t):IZ w1 t b n cap own procs dmax err pos:=
 have e:w1.heap[t]?=u.heap[t]?:=g.block t h.C.1 (fun e=>ho e.symm)
 ⟨⟨jI h.C.1 g.size,fun i hi=>(World.cell?_of_block (a:=Va t i) e).trans (h.C.2 i hi)⟩,fun i=>(World.frozen?_of_block (a:=Va t i) e).trans (h.F i)⟩
theorem YP{base e size:Nat}{v:Value}(h:w.ownsRow base e size v n xs)(f:Ft t w w')(hn:v.ownBlock≠some t):w'.ownsRow base e size v n xs:=by
 refine⟨h.1,?_⟩;rcases h.2 with h'|⟨g,cap,cur,rfl,h1,h2,h3⟩
 ·exact .inl h'
 ·have hg:g<w.heap.size:=(jH.1 h2).1
  exact .inr ⟨g,cap,cur,rfl,h1,(f.block g hg (fun e=>hn (by rw[e];rfl))).trans h2,h3⟩
theorem BInv.bad{u3:World}(lt:t<w.heap.size)(F0:Ft t w wr)(O0:wr.ownsRow 0 112 1 mv xs.length xs)(OB:∀g,mv.ownBlock=some g->w.heap.size<=g)(hpt:p<te)
 (hc:CZ L own procs (dmax+1) p te depth=CZ L own procs (dmax+1) i te depth)(F3:Ft t wr u3)(T3:IZ u3 t b n cap own procs dmax (DL (L p) own procs dmax ((te:Int)-(p:Int)-1) depth) (p:Int))(hw:DL (L p) own procs dmax ((te:Int)-(p:Int)-1) depth≠0):
 BInv L t b n cap own procs dmax m i te depth w mv u3/\eH t te u3=0:=by
 refine⟨⟨xs,_,_,F0.trans F3,T3,YP O0 F3 (fun e=>by have:=OB t e;omega),OB,.inl ⟨hw,?_⟩⟩,?_⟩
 ·rw[<-hc,KT hpt,if_pos hw]
 ·rw[Lf te T3,if_neg hw]
theorem BInv.more{u3 u4:World}{v' x:Value}{dn:List Nat}{bl:Obj}(lt:t<w.heap.size)(F0:Ft t w wr)(O0:wr.ownsRow 0 112 1 mv xs.length xs)(OB:∀g,mv.ownBlock=some g->w.heap.size<=g)(hip:i<=p)(hpt:p<te)
 (hc:CZ L own procs (dmax+1) p te depth=CZ L own procs (dmax+1) i te depth)(ht:ER L i te=dn++ER L p te)(hl:xs.length=dn.length)(hx:xs.length<=p)(N0:∀(k:Nat)(x:Value)(q:Nat),xs[k]?=some x->dn[k]?=some q->Jw L m wr (fun g=>w.heap.size<=g/\mv.ownBlock≠some g) x q)
 (F3:Ft t wr u3)(F4:Ft t u3 u4)(T4:IZ u4 t b n cap own procs dmax (NU L own procs dmax p depth).1 (NU L own procs dmax p depth).2)(N4:(NU L own procs dmax p depth).1=0->Jw L m u4 (fun q=>u3.heap.size<=q) x p)
 (hw:DL (L p) own procs dmax ((te:Int)-(p:Int)-1) depth=0)(O1:w1.ownsRow 0 112 1 v' (xs.length+1) (xs++[x]))(G:(u4.alloc bl).grownBy w1 mv.ownBlock)(ha:v'.ownBlock=mv.ownBlock∨v'.ownBlock=some (u4.heap.size+1)):
 BInv L t b n cap own procs dmax m i te depth w v' w1/\eH t te w1<te+1-p:=by
 obtain⟨hok,h1,h2,_,_⟩:=Lu hw;obtain⟨tp,ep⟩:=KN hok;have bA:Below u4.heap.size u4 (u4.alloc bl):=Ak;have zA:(u4.alloc bl).heap.size=u4.heap.size+1:=by simp
 have z0:=F0.size;have z3:=F3.size;have z4:=F4.size;have FU:=((F0.trans F3).trans F4).trans (Ft.of_below bA);have F1:=FU.grown G OB;have T1:=(T4.below bA).grown G (fun e=>by have:=OB t e;omega);have OB1:∀g,v'.ownBlock=some g->w.heap.size<=g:=fun g hg=>by
  rcases ha with e|e
  ·exact OB g (e▸hg)
  ·rw[e]at hg;have:=Option.some.inj hg;omega
 have hlen:(xs++[x]).length=xs.length+1:=by simp
 have O1':w1.ownsRow 0 112 1 v' (xs++[x]).length (xs++[x]):=by rw[hlen];exact O1
 by_cases hs:(NU L own procs dmax p depth).1=0
 rotate_left
 ·refine⟨⟨_,_,_,F1,T1,O1',OB1,.inl ⟨hs,?_⟩⟩,?_⟩
  ·rw[<-hc,KT hpt,if_neg (by simpa using hw),if_pos hs]
  ·rw[Lf te T1,if_neg hs];omega
 ·have hz:=Yl hs
  have N4':=N4 hs;rw[hz]at T1;refine⟨⟨_,_,_,F1,T1,O1',OB1,.inr ⟨rfl,p+1+(L p).thn.toNat+(L p).els.toNat,dn++[p],rfl,by omega,by omega,?_,?_,by simp[hl],by omega,?_⟩⟩,?_⟩
  ·rw[<-hc,KT hpt,if_neg (by simpa using hw),if_neg (by simpa using hs)]
  ·rw[ht,DW hpt];simp
  ·intro k x' q hk hq
   by_cases e:k<xs.length
   ·rw[List.getElem?_append_left e]at hk
    rw[List.getElem?_append_left (by omega)]at hq;refine(N0 k x' q hk hq).kept2 (fun g⟨g1,g2⟩hg=>⟨g1,fun e'=>?_⟩) (fun g⟨g1,g2⟩hg=>?_)
    ·rcases ha with e2|e2
     ·exact g2 (e2▸e')
     ·rw[e2]at e';have:=Option.some.inj e';omega
    ·exact(G.block g (by omega) (fun e'=>g2 e'.symm)).trans ((bA.block g (by omega)).trans ((F4.block g (by omega) (by omega)).trans (F3.block g hg (by omega))))
   ·have ek:k=xs.length:=by
     have:=(List.getElem?_eq_some_iff.1 hk).1;simp at this;omega
    subst ek;simp at hk;rw[hl]at hq;simp at hq;subst hk hq;refine N4'.kept2 (fun g g1 hg=>⟨by omega,fun e'=>?_⟩) (fun g g1 hg=>?_)
    ·rcases ha with e2|e2
     ·rw[e2]at e';have:=(O0.lt g e').2;omega
     ·rw[e2]at e';have:=Option.some.inj e';omega
    ·exact(G.block g (by omega) (fun e'=>by have:=(O0.lt g e'.symm).2;omega)).trans (bA.block g hg)
  ·rw[Lf te T1,if_pos rfl];omega
theorem MK(L:Nat->SV)(t b n cap:Nat)(own procs dmax:Int)(m i te:Nat)(depth:Int)(hbt:b≠t)(ln:n<=1048576)(hit:i<=te)(htn:te<=n)
 (hS:∀p,i<=p->p<te->DL (L p) own procs dmax ((te:Int)-(p:Int)-1) depth=0->ZJ L t b n cap own procs dmax m p depth):MR L t b n cap own procs dmax (m+1) i te depth:=by
 intro w hA hT;obtain⟨res,hres⟩:=Ae (CZ L own procs (dmax+1) i te depth);rw[hres];have HRES:=hxy hres;obtain⟨ps,hps⟩:∃y:Int,(if res.1=0 then(te:Int)else res.2)=y:=⟨_,rfl⟩
 rw[hps];have HPS:=hxy hps;clear hres hps;have HS:Hid _:=hS;have HA:=hxy hA;have HT:=hxy hT;have lt:=hT.C.1;have lb:=hA.1;obtain⟨q0,q1,q2,q3,q4,q5⟩:=Dq hT;clear hA hT hS;have fe:IntKind.i64.wrap ((i:Int)+((te:Int)-(i:Int)))=(te:Int):=by rw[IntKind.wrap_i64];omega
 go_enter Tryz.func39,Tryz.ntmps39;go_wp2;clear q0 q1 q2 q3 q4 q5;try rw[show(i:Int)+((te:Int)-(i:Int))=(te:Int)by omega]
 go_loopw [7](fun mv wr=>BInv L t b n cap own procs dmax m i te depth w mv wr)(fun _ wr=>eH t te wr)
 case atStart=>exact⟨[],0,_,Ft.refl _ _,HT.out,⟨by simp,.inl ⟨rfl,by simp⟩⟩,(fun g hg=>by cases hg),.inr ⟨rfl,i,[],rfl,jG,hit,rfl,rfl,rfl,Nat.zero_le _,fun k x q h=>by simp at h⟩⟩
 case round=>
  obtain⟨xs,errv,posv,f0,t0,o0,ob0,hcase⟩:=hrel;obtain⟨ao7,k7,c7,rfl⟩:=Cw o0;have F0:=hxy f0;have O0:=hxy o0;have OB0:=hxy ob0;have T0:=hxy t0;clear f0 o0 ob0 t0;obtain⟨q0,q1,q2,q3,q4,q5⟩:=Dq T0.out;have tl:=T0.out.C.1;have tf:=T0.out.F;rcases hcase with⟨he,hce⟩|⟨he,p,dn,hpos,hip,hpt,hcp,htp,hln,hxp,hnp⟩
  ·have e0:(errv==0)=false:=by simp[he]
   have HE:Hid (errv≠0/\CZ L own procs (dmax+1) i te depth=(errv,posv)):=⟨he,hce⟩
   clear he hce;go_wp2;go_ret;exact BInv.ends (L:=L) (m:=m) (i:=i) (te:=te) (depth:=depth) HRES.out HPS.out F0.out T0.out O0.out OB0.out (.inl HE.out)
  subst he hpos;have HC:=hxy hcp;have HTP:=hxy htp;have HLN:=hxy hln;have HN:=hxy hnp;clear hcp htp hln hnp;by_cases hlt:p<te
  rotate_left
  ·have hlt':¬(p:Int)<(te:Int):=by omega
   go_wp2;go_ret;refine BInv.ends (L:=L) (m:=m) (i:=i) (te:=te) (depth:=depth) HRES.out HPS.out F0.out T0.out O0.out OB0.out (.inr ⟨rfl,by omega,dn,?_,?_,HLN.out,HN.out⟩)
   ·rw[<-HC.out,JR hlt]
   ·rw[HTP.out,ES hlt];simp
  have hlt':(p:Int)<(te:Int):=by omega
  have hpn:(p:Int)<(n:Int):=by omega
  go_upto_region 4 with fail;clear q0 q1 q2 q3 q4 q5;have A0:=hxy (F0.out.arr HA.out hbt);have r0:∀w',Below wr.heap.size wr w'->w'.cell? (Va t 0)=some (Vs b n cap):=fun w' h=>(T0.out.below h).C.2 0 (by simp)
  have r5:∀w',Below wr.heap.size wr w'->w'.cell? (Va t 5)=some (Vi (p:Int)):=fun w' h=>(T0.out.below h).C.2 5 (by simp)
  have s0:∀w',Below wr.heap.size wr w'->w'.cell? (Va b (p*11))=some (Vi (L p).k):=fun w' h=>(Eu (n:=n) (A0.out.below h A0.out.lt) p (by omega)).1
  have s1:∀w',Below wr.heap.size wr w'->w'.cell? (Va b (p*11+1))=some (Vi (L p).op):=fun w' h=>(Eu (n:=n) (A0.out.below h A0.out.lt) p (by omega)).2.1
  have s2:∀w',Below wr.heap.size wr w'->w'.cell? (Va b (p*11+2))=some (Vi (L p).d):=fun w' h=>(Eu (n:=n) (A0.out.below h A0.out.lt) p (by omega)).2.2.1
  have s3:∀w',Below wr.heap.size wr w'->w'.cell? (Va b (p*11+3))=some (Vi (L p).a):=fun w' h=>(Eu (n:=n) (A0.out.below h A0.out.lt) p (by omega)).2.2.2.1
  have s4:∀w',Below wr.heap.size wr w'->w'.cell? (Va b (p*11+4))=some (Vi (L p).b):=fun w' h=>(Eu (n:=n) (A0.out.below h A0.out.lt) p (by omega)).2.2.2.2.1
  have s5:∀w',Below wr.heap.size wr w'->w'.cell? (Va b (p*11+5))=some (Vi (L p).imm):=fun w' h=>(Eu (n:=n) (A0.out.below h A0.out.lt) p (by omega)).2.2.2.2.2.1
  have s6:∀w',Below wr.heap.size wr w'->w'.cell? (Va b (p*11+6))=some (Vi (L p).h):=fun w' h=>(Eu (n:=n) (A0.out.below h A0.out.lt) p (by omega)).2.2.2.2.2.2.1
  have s7:∀w',Below wr.heap.size wr w'->w'.cell? (Va b (p*11+7))=some (Vi (L p).cond):=fun w' h=>(Eu (n:=n) (A0.out.below h A0.out.lt) p (by omega)).2.2.2.2.2.2.2.1
  have s8:∀w',Below wr.heap.size wr w'->w'.cell? (Va b (p*11+8))=some (Vi (L p).thn):=fun w' h=>(Eu (n:=n) (A0.out.below h A0.out.lt) p (by omega)).2.2.2.2.2.2.2.2.1
  have s9:∀w',Below wr.heap.size wr w'->w'.cell? (Va b (p*11+9))=some (Vi (L p).els):=fun w' h=>(Eu (n:=n) (A0.out.below h A0.out.lt) p (by omega)).2.2.2.2.2.2.2.2.2.1
  have s10:∀w',Below wr.heap.size wr w'->w'.cell? (Va b (p*11+10))=some (Vi (L p).proc):=fun w' h=>(Eu (n:=n) (A0.out.below h A0.out.lt) p (by omega)).2.2.2.2.2.2.2.2.2.2
  refine wp_region_held_drew (S:=fun w'=>Below wr.heap.size wr w') (by kernel_rfl) (Below.refl _ _).drew (fun hd0=>?_);generalize wr.drew=v0 at hd0⊢;refine AB 0 rfl ?_;refine AB 1 rfl ?_;refine AB 2 rfl ?_;refine AB 3 rfl ?_;refine AB 4 rfl ?_;refine AB 5 rfl ?_;refine AB 6 rfl ?_;refine AB 7 rfl ?_;refine AB 8 rfl ?_;refine AB 9 rfl ?_;refine AO 10 rfl (fun KK hK=>?_)
  go_simp
  refine hK.out _ _ (hd0.alloc hd0.size _) (fun hHeld=>?_)
  clear hK KK
  try simp only[Act.put,BP,BN,BK,BQ,BS,BM]
  refine AO 11 rfl (fun KK hK=>?_)
  go_simp
  refine hK.out _ _ (hd0.alloc hd0.size _) (fun hHeld=>?_)
  clear hK KK
  try simp only[Act.put,BP,BN,BK,BQ,BS,BM]
  refine wpAnyH_done (by kernel_rfl) ?_ _
  obtain⟨u1,hu1,hb1,hc1⟩:∃x,v0.alloc (.cells #[Vi (L p).k,Vi (L p).op,Vi (L p).d,Vi (L p).a,Vi (L p).b,Vi (L p).imm,Vi (L p).h,Vi (L p).cond,Vi (L p).thn,Vi (L p).els,Vi (L p).proc] 89)=x/\Below wr.heap.size wr x/\Cl x v0.heap.size [Vi (L p).k,Vi (L p).op,Vi (L p).d,Vi (L p).a,Vi (L p).b,Vi (L p).imm,Vi (L p).h,Vi (L p).cond,Vi (L p).thn,Vi (L p).els,Vi (L p).proc]:=⟨_,rfl,hd0.alloc hd0.size _,Cl.new⟩
  rw[hu1]
  have C1:=hxy hc1
  have T1:=hxy (T0.out.below hb1)
  have F1:Hid (Ft t wr u1):=Ft.of_below hb1
  have A1:=hxy (A0.out.below hb1 A0.out.lt)
  have nt:t<v0.heap.size:=jI tl hd0.size
  have nl:=hc1.1
  clear hu1 hb1 hc1 hd0 hHeld r0 r5 s0 s1 s2 s3 s4 s5 s6 s7 s8 s9 s10 A0 tl tf
  generalize v0.heap.size=sb at *
  go_upto_region 5 with fail
  have tl:=T1.out.C.1
  have tf:=T1.out.F
  have s0:∀w',Below u1.heap.size u1 w'->w'.cell? (Va sb 0)=some (Vi (L p).k):=fun w' h=>(C1.out.below h).2 0 (by simp)
  have s1:∀w',Below u1.heap.size u1 w'->w'.cell? (Va sb 1)=some (Vi (L p).op):=fun w' h=>(C1.out.below h).2 1 (by simp)
  have s2:∀w',Below u1.heap.size u1 w'->w'.cell? (Va sb 2)=some (Vi (L p).d):=fun w' h=>(C1.out.below h).2 2 (by simp)
  have s3:∀w',Below u1.heap.size u1 w'->w'.cell? (Va sb 3)=some (Vi (L p).a):=fun w' h=>(C1.out.below h).2 3 (by simp)
  have s4:∀w',Below u1.heap.size u1 w'->w'.cell? (Va sb 4)=some (Vi (L p).b):=fun w' h=>(C1.out.below h).2 4 (by simp)
  have s5:∀w',Below u1.heap.size u1 w'->w'.cell? (Va sb 5)=some (Vi (L p).imm):=fun w' h=>(C1.out.below h).2 5 (by simp)
  have s6:∀w',Below u1.heap.size u1 w'->w'.cell? (Va sb 6)=some (Vi (L p).h):=fun w' h=>(C1.out.below h).2 6 (by simp)
  have s7:∀w',Below u1.heap.size u1 w'->w'.cell? (Va sb 7)=some (Vi (L p).cond):=fun w' h=>(C1.out.below h).2 7 (by simp)
  have s8:∀w',Below u1.heap.size u1 w'->w'.cell? (Va sb 8)=some (Vi (L p).thn):=fun w' h=>(C1.out.below h).2 8 (by simp)
  have s9:∀w',Below u1.heap.size u1 w'->w'.cell? (Va sb 9)=some (Vi (L p).els):=fun w' h=>(C1.out.below h).2 9 (by simp)
  have s10:∀w',Below u1.heap.size u1 w'->w'.cell? (Va sb 10)=some (Vi (L p).proc):=fun w' h=>(C1.out.below h).2 10 (by simp)
  have r5:∀w',Below u1.heap.size u1 w'->w'.cell? (Va t 5)=some (Vi (p:Int)):=fun w' h=>(T1.out.below h).C.2 5 (by simp)
  have fd:IntKind.i64.wrap ((te:Int)-(p:Int))=(te:Int)-(p:Int):=by rw[IntKind.wrap_i64];omega
  have fd2:IntKind.i64.wrap ((te:Int)-(p:Int)-1)=(te:Int)-(p:Int)-1:=by rw[IntKind.wrap_i64];omega
  refine BF (T:=fun w'=>Below u1.heap.size u1 w') (s:=14) (by kernel_rfl) (Below.refl _ _).drew (fun hHeld=>?_)
  refine AJ 0 rfl ?_
  refine AJ 1 rfl ?_
  refine AJ 2 rfl ?_
  refine AJ 3 rfl ?_
  refine AJ 4 rfl ?_
  refine AJ 5 rfl ?_
  refine AJ 6 rfl ?_
  refine AJ 7 rfl ?_
  refine AJ 8 rfl ?_
  refine AJ 9 rfl ?_
  refine AJ 10 rfl ?_
  refine Aq (i:=11) rfl (by kernel_rfl) (fun KK hK=>?_)
  go_simp
  refine(WJ t _ own procs dmax 0 (p:Int) (L p) ((te:Int)-(p:Int)-1) depth _ (T1.out.below (Below.refl _ _).drew).C (by omega) (by omega)).mono ?_
  rintro e u2⟨rfl,hb⟩
  have b2:=(Below.refl u1.heap.size u1).drew.trans hb
  clear hb
  obtain⟨wi,hwi⟩:=Ae (DL (L p) own procs dmax ((te:Int)-(p:Int)-1) depth)
  rw[hwi]
  have HWI:=hxy hwi
  clear hwi
  go_wp2_with fail
  refine hK.out _ _ b2 (fun hHeld2=>?_)
  clear hK KK
  try simp only[Act.put,BP,BN,BK,BQ,BS,BM]
  refine C9 12 rfl ?_
  refine AJ 13 rfl ?_
  have T2:=hxy (T1.out.below b2)
  have C2:=hxy (C1.out.below b2)
  have A2:=hxy (A1.out.below b2 A1.out.lt)
  have F2:=hxy (F1.out.trans (Ft.of_below b2))
  clear r5 s0 s1 s2 s3 s4 s5 s6 s7 s8 s9 s10 fd fd2
  obtain⟨q0,q1,q2,q3,q4,q5⟩:=Dq T2.out
  have tl2:=T2.out.C.1
  have tf2:=T2.out.F
  refine A7 rfl (by kernel_rfl) (by kernel_rfl) (fun KK hK=>?_)
  go_simp
  refine hK.out _ _ ?_
  clear hK KK q0 q1 q2 q3 q4 q5 tl tf tl2 tf2 hHeld hHeld2 b2 T1 C1 A1 F1
  obtain⟨u3,hu3,T3,F3,C3⟩:∃x,u2.setCell (Va t 4) (Vi wi)=x/\Hid (IZ x t b n cap own procs dmax wi (p:Int))/\Hid (Ft t wr x)/\Hid (Cl x sb [Vi (L p).k,Vi (L p).op,Vi (L p).d,Vi (L p).a,Vi (L p).b,Vi (L p).imm,Vi (L p).h,Vi (L p).cond,Vi (L p).thn,Vi (L p).els,Vi (L p).proc]):=⟨_,rfl,T2.out.setErr _,F2.out.set _ _,⟨by simpa using C2.out.1,fun i hi=>(World.cell?_setCell_far _ _ _ _ (show t≠sb by omega)).trans (C2.out.2 i hi)⟩⟩
  rw[hu3]
  clear hu3 T2 F2 C2 A2
  obtain⟨q0,q1,q2,q3,q4,q5⟩:=Dq T3.out
  have tl:=T3.out.C.1
  by_cases hz:wi=0
  rotate_left
  ·have e0:(wi==0)=false:=by simp[hz]
   have HZ:=hxy hz
   clear hz
   go_wp2
   have R:=BInv.bad (L:=L) (m:=m) (i:=i) (te:=te) (p:=p) (depth:=depth) lt F0.out O0.out OB0.out hlt HC.out F3.out (by rw[HWI.out];exact T3.out) (by rw[HWI.out];exact HZ.out)
   go_roundw
   case rel=>exact R.1
   case measure=>rw[R.2,Lf te T0.out,if_pos rfl];omega
  subst hz
  obtain⟨c0,c1,c2,c3,c4,c5,c6,c7',c8,c9,c10⟩:=Gx C3.out
  have cz:=C3.out.1
  obtain⟨iV,gV,gV0,gV1,gV2⟩:=info_parts MS
  have HIV:Hid (_/\_/\_/\_):=⟨gV,gV0,gV1,gV2⟩
  clear gV gV0 gV1 gV2
  go_wp2_with fail
  clear q0 q1 q2 q3 q4 q5 c0 c1 c2 c3 c4 c5 c6 c7' c8 c9 c10 tl cz
  have hc:=HS.out p hip hlt HWI.out u3 ((F0.out.trans F3.out).arr HA.out hbt) T3.out
  refine hc.mono ?_
  clear hc
  rintro e u4⟨ty,av,rfl,hf4,ht4,hn4⟩
  have F4:=hxy hf4
  have T4:=hxy ht4
  have N4:=hxy hn4
  have O4:Hid (u4.ownsRow 0 112 1 (.slice ao7 k7 c7) xs.length xs):=YP O0.out (F3.out.trans F4.out) (fun e=>by have:=OB0.out t e;omega)
  clear hf4 ht4 hn4
  go_wp2_with(first|(at_builtin;refine wpList_append_own_at _ rfl _ _ 70 rfl 0 112 iV .nilIface 1 16 Tryz.underlying70 HIV.out.1 HIV.out.2.1 HIV.out.2.2.1 HIV.out.2.2.2 rfl (by decide) (.slice ao7 k7 c7) xs.length xs rfl (Gb O4.out Ak) ⟨u4.heap.size,0,none⟩ 1 1 [.iface ty av] rfl rfl (cell_one_new _ _ _) ?c2 ?c3 ?c4 ?c5 ?_)|go_in)
  case c2=>intro x hx;simp at hx;subst hx;rfl
  case c3=>unfold maxLen;omega
  case c4=>omega
  case c5=>exact Nat.zero_le _
  intro v' w1 hown hgrow _ hat
  have R:=BInv.more (L:=L) (m:=m) (i:=i) (te:=te) (p:=p) (depth:=depth) lt F0.out O0.out OB0.out hip hlt HC.out HTP.out HLN.out hxp HN.out F3.out F4.out T4.out N4.out HWI.out hown hgrow hat
  have HR:Hid _:=R
  clear hown hgrow hat R
  go_wp2
  go_roundw
  case rel=>exact HR.out.1
  case measure=>have:=HR.out.2;rw[Lf te T0.out,if_pos rfl];omega
theorem TV(h:BG s procs=true):s.k=1∨s.k=2∨s.k=3∨s.k=4:=by
 unfold BG at h;by_cases a:s.k=1
 ·exact .inl a
 by_cases b:s.k=2
 ·exact .inr (.inl b)
 by_cases c:s.k=3
 ·exact .inr (.inr (.inl c))
 by_cases d:s.k=4
 ·exact .inr (.inr (.inr d))
 rw[if_neg a,if_neg b,if_neg c,if_neg d]at h;cases h
theorem Js(h:BG s procs=true)(hk:s.k=1∨s.k=4):s.thn=0/\s.els=0:=by
 unfold BG at h;rcases hk with k|k
 ·rw[if_pos k]at h;simp at h;omega
 ·rw[if_neg (by omega),if_neg (by omega),if_neg (by omega),if_pos k]at h;simp at h;omega
theorem aI(h:BG s procs=true)(hk:s.k=3):s.els=0:=by
 unfold BG at h;rw[if_neg (by omega),if_neg (by omega),if_pos hk]at h;simp at h;omega
theorem SI(L:Nat->SV)(t b n cap:Nat)(own procs dmax:Int)(hbt:b≠t)(ln:n<=1048576):∀(m i te:Nat)(depth:Int),te-i<=m->i<=te->te<=n->0<=depth->depth+(m:Int)<=1099511627776->MR L t b n cap own procs dmax (m+1) i te depth:=by
 intro m;induction m with
 |zero=>
  intro i te depth hm hit htn d0 d1;exact MK L t b n cap own procs dmax 0 i te depth hbt ln hit htn (fun p h1 h2=>by omega)
 |succ m ih=>
  intro i te depth hm hit htn d0 d1;refine MK L t b n cap own procs dmax (m+1) i te depth hbt ln hit htn (fun p h1 h2 hw=>?_);obtain⟨hok,w1,w2,_,_⟩:=Lu hw;obtain⟨tp,ep⟩:=KN hok;rcases TV hok with k|k|k|k
  ·obtain⟨z1,z2⟩:=Js hok (.inl k)
   intro w hA hT;refine(He L t b n cap own procs dmax (m+1) p depth w (by omega) hT (.inl k)).mono ?_;rintro e w'⟨ty,a,rfl,f,T,N⟩;have hs:=SA (own:=own) (procs:=procs) (dmax:=dmax) (depth:=depth) z1 z2;exact⟨ty,a,rfl,f,by rw[hs];exact T,fun _=>N⟩
  ·exact Nv L t b n cap own procs dmax (m+1) p depth (by omega) d0 (by omega) hbt k tp ep (ih _ _ _ (by omega) (by omega) (by omega) (by omega) (by omega)) (ih _ _ _ (by omega) (by omega) (by omega) (by omega) (by omega))
  ·exact Nt L t b n cap own procs dmax (m+1) p depth (by omega) d0 (by omega) hbt k tp (aI hok k) (ih _ _ _ (by omega) (by omega) (by omega) (by omega) (by omega))
  ·obtain⟨z1,z2⟩:=Js hok (.inr k)
   intro w hA hT;refine(He L t b n cap own procs dmax (m+1) p depth w (by omega) hT (.inr k)).mono ?_;rintro e w'⟨ty,a,rfl,f,T,N⟩;have hs:=SA (own:=own) (procs:=procs) (dmax:=dmax) (depth:=depth) z1 z2;exact⟨ty,a,rfl,f,by rw[hs];exact T,fun _=>N⟩
def pz(Pv:Nat->PV)(np:Nat):Nat->Nat->Int
 |0=>fun _=>0
 |k+1=>fun i=>if i=np-1-k then min (Bf (Pv (np-1-k)).L (pz Pv np k) (Pv (np-1-k)).n) 2000 else pz Pv np k i
theorem Yj(Pv:Nat->PV)(np k:Nat):∀i,0<=pz Pv np k i/\pz Pv np k i<=2000:=by
 induction k with
 |zero=>intro i;exact⟨Int.le_refl _,by show(0:Int)<=2000;decide⟩
 |succ k ih=>
  intro i;show 0<=(if i=np-1-k then min (Bf (Pv (np-1-k)).L (pz Pv np k) (Pv (np-1-k)).n) 2000 else pz Pv np k i)/\(if i=np-1-k then min (Bf (Pv (np-1-k)).L (pz Pv np k) (Pv (np-1-k)).n) 2000 else pz Pv np k i)<=2000;split
  ·have:=Ej (L:=(Pv (np-1-k)).L) (fun i=>(ih i).1) (Pv (np-1-k)).n
   omega
  ·exact ih i
theorem TN(L:Nat->SV)(A B:Nat->Int)(ha:∀i,0<=A i)(hb:∀i,0<=B i)(h:∀i,min (A i) 2000=min (B i) 2000):∀k,min (Bf L A k) 2000=min (Bf L B k) 2000
 |0=>rfl
 |k+1=>by
  have ih:=TN L A B ha hb h k;have p1:=Ej (L:=L) ha k;have p2:=Ej (L:=L) hb k;have q1:=UN (s:=L k) ha;have q2:=UN (s:=L k) hb;have e:min (wI (L k) A) 2000=min (wI (L k) B) 2000:=by
   unfold wI;split
   ·rfl
   ·split
    ·exact h _
    ·rfl
  show min (Bf L A k+wI (L k) A) 2000=min (Bf L B k+wI (L k) B) 2000;omega
theorem Zk(x:Int):min (Ic x) 2000=min x 2000:=by unfold Ic;split<;>omega
theorem bC(Pv:Nat->PV)(np:Nat):∀k i,min (pz Pv np k i) 2000=min (zs Pv np k i) 2000
 |0,_=>rfl
 |k+1,i=>by
  have ih:=bC Pv np k;show min (if i=np-1-k then min (Bf (Pv (np-1-k)).L (pz Pv np k) (Pv (np-1-k)).n) 2000 else pz Pv np k i) 2000=min (if i=np-1-k then Ic (Bf (Pv (np-1-k)).L (zs Pv np k) (Pv (np-1-k)).n)else zs Pv np k i) 2000;split
  ·rw[Zk]
   have:=TN (Pv (np-1-k)).L (pz Pv np k) (zs Pv np k) (fun i=>(Yj Pv np k i).1) (fun i=>(Uo Pv np k i).1) ih (Pv (np-1-k)).n;omega
  ·exact ih i
theorem A9.setF{Z:Nat->Int}(h:A9 w b n (zF Z))(x:Nat)(hx:x<n)(z:Int):A9 (w.setCell (Va b x) (Vi z)) b n (zF (fun i=>if i=x then z else Z i)):=
 (h.setU x hx _).congr (fun i _=>by
   show(if i=x then _ else _)=Vi (if i=x then z else Z i);by_cases e:i=x
   ·rw[if_pos e,if_pos e]
   ·rw[if_neg e,if_neg e];rfl)
theorem RI(ub zb g np cz cs:Nat)(e1 e2 e3:Value)(Pv:Nat->PV)(tv:Nat->Value)(S:Nat->Prop)(w:World)(n1:np<=20)(hU:Cl w ub [e1,e2,e3,Vs g np cz,Vs zb np cs])(hG:At w g 0 np tv)(hZ:A9 w zb np (zF (fun _=>0)))
 (hR:∀i,i<np->Dg (Pv i).L ((Pv i).n+1) w S (tv i) 0 (Pv i).n)(hS:∀b,S b->b≠zb)(hg:g≠zb)(hu:ub≠zb)(hc:∀i,i<np->(Pv i).n<=500/\(CZ (Pv i).L (i:Int) (np:Int) 16 0 (Pv i).n 0).1=0):
 Calls Tryz.prog 40 #[Vq ub] w fun e w'=>e=.returned (.tuple #[])/\Ft zb w w'/\A9 w' zb np (zF (pz Pv np np)):=by
 have HU:=hxy hU;have HG:=hxy hG;have HZ:=hxy hZ;have HR:=hxy hR;have HS:=hxy hS;have HC:=hxy hc;have lu:=hU.1;have lg:=hG.1;have lz:=hZ.1;have q3:w.cell? (Va ub 3)=some (Vs g np cz):=hU.2 3 (by simp);clear hU hG hZ hR hS hc;go_enter Tryz.func40,Tryz.ntmps40;go_wp2;clear q3;go_loopw [2](fun iv wr=>∃k:Nat,k<=np/\iv=Vi ((np:Int)-1-(k:Int))/\Ft zb w wr/\A9 wr zb np (zF (pz Pv np k)))(fun iv _=>((intOf iv)+1).toNat)
 case atStart=>exact⟨0,Nat.zero_le _,by simp,Ft.refl _ _,HZ.out⟩
 case round=>
  obtain⟨k,hk,rfl,hf,ha⟩:=hrel;have F0:=hxy hf;have A0:=hxy ha;clear hf ha;by_cases hlt:k<np
  rotate_left
  ·obtain rfl:k=np:=by omega
   have hneg:¬((k:Int)-1-(k:Int))>=0:=by omega
   go_wp2;go_end0;exact⟨rfl,F0.out,A0.out⟩
  obtain⟨x,hx⟩:∃x:Nat,x=np-1-k:=⟨_,rfl⟩
  have hxi:(np:Int)-1-(k:Int)=(x:Int):=by omega
  rw[hxi];have hxq:x<np:=by omega
  have hxq':(x:Int)<(np:Int):=by omega
  have hx0:(x:Int)>=0:=by omega
  have HXX:=hxy hx;have HXI:=hxy hxi;clear hx hxi;go_upto_region 3 with fail;have lr:=F0.out.size;have U0:=hxy (F0.out.cl HU.out hu);have G0:Hid (wr.cell? (Va g x)=some (tv x)):=(F0.out.cell lg hg).trans (by have:=HG.out.cell hxq;rwa [Nat.zero_add]at this);have r3:∀w',Below wr.heap.size wr w'->w'.cell? (Va ub 3)=some (Vs g np cz):=fun w' h=>(U0.out.below h).2 3 (by simp)
  have r4:∀w',Below wr.heap.size wr w'->w'.cell? (Va ub 4)=some (Vs zb np cs):=fun w' h=>(U0.out.below h).2 4 (by simp)
  have rg:∀w',Below wr.heap.size wr w'->w'.cell? (Va g x)=some (tv x):=fun w' h=>(h.cell (p:=Va g x) (by simp;omega)).trans G0.out
  refine BF (T:=fun w'=>Below wr.heap.size wr w') (s:=19) (by kernel_rfl) (Below.refl _ _).drew (fun hHeld=>?_);refine AJ 0 rfl ?_;refine AJ 1 rfl ?_;refine AJ 2 rfl ?_;refine AJ 3 rfl ?_;refine AJ 4 rfl ?_;refine AJ 5 rfl ?_;refine AJ 6 rfl ?_;refine AJ 7 rfl ?_;refine AJ 8 rfl ?_;refine AJ 9 rfl ?_;refine AJ 10 rfl ?_;refine AJ 11 rfl ?_;refine AJ 12 rfl ?_;refine AJ 13 rfl ?_;refine AJ 14 rfl ?_;refine AJ 15 rfl ?_;refine Aq (i:=16) rfl (by kernel_rfl) (fun KK hK=>?_);go_simp;obtain⟨hn5,hch⟩:=HC.out x hxq;refine(Nf (Pv x).L zb np cs (pz Pv np k) wr (fun i=>(Yj Pv np k i).1) (fun i=>by have:=(Yj Pv np k i).2;omega) A0.out.at (x:Int) 16 ((Pv x).n+1) 0 (Pv x).n 0 (tv x) S _ (Below.refl _ _).drew (((HR.out x hxq).kept (fun _ h=>h) (fun b hb hl=>F0.out.block b hl (HS.out b hb))).below (Below.refl _ _).drew) (Nat.zero_le _) (by omega) hch).mono ?_;rintro e u1⟨rfl,hb⟩;have b1:=(Below.refl wr.heap.size wr).drew.trans hb;clear hb hch hn5;obtain⟨z,hz⟩:=Ae (Bf (Pv x).L (pz Pv np k) (Pv x).n);rw[hz,show Bf (Pv x).L (pz Pv np k) 0=0 from rfl,Int.sub_zero];have HZZ:=hxy hz;clear hz;go_wp2_with fail;refine hK.out _ _ b1 (fun hHeld1=>?_);clear hK KK;try simp only[Act.put,BP,BN,BK,BQ,BS,BM]
  refine AJ 17 rfl ?_;refine AJ 18 rfl ?_;have A1:=hxy (A0.out.below b1 A0.out.lt);have F1:=hxy (F0.out.trans (Ft.of_below b1));clear r3 r4 rg;have a0:=A1.out.cell hxq;have af:=A1.out.free;have al:=A1.out.lt;refine A7 rfl (by kernel_rfl) (by kernel_rfl) (fun KK hK=>?_);go_simp;refine hK.out _ _ ?_;clear hK KK a0 af al hHeld hHeld1 b1 U0 G0 A0 F0;obtain⟨y,hy⟩:∃y:Int,(if 2000<z then 2000 else z)=y:=⟨_,rfl⟩
  rw[hy];have HY:Hid (min z 2000=y):=(by rw[<-hy];split<;>omega:min z 2000=y)
  clear hy;obtain⟨u2,hu2,F2,A2⟩:∃v,u1.setCell (Va zb x) (Vi y)=v/\Hid (Ft zb w v)/\Hid (A9 v zb np (zF (pz Pv np (k+1)))):=⟨_,rfl,F1.out.set _ _,(A1.out.setF x hxq y).congr (fun i _=>by
   show Vi (if i=x then y else pz Pv np k i)=Vi (if i=np-1-k then min (Bf (Pv (np-1-k)).L (pz Pv np k) (Pv (np-1-k)).n) 2000 else pz Pv np k i);rw[<-HXX.out,HZZ.out,HY.out])⟩
  rw[hu2];clear hu2 F1 A1;go_wp2;go_roundw
  case rel=>exact⟨k+1,by omega,by have:=HXI.out;rw[show(np:Int)-1-((k+1:Nat):Int)=(x:Int)-1 by omega],F2.out,A2.out⟩
  case measure=>simp[intOf]
end Go.Proofs.YtfpeecaaleijcaaGreatDoor
