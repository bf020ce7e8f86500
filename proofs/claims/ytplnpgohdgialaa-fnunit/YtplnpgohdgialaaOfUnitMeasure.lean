import Derived.Test.YtplnpgohdgialaaOfUnitWrong
import Derived.Test.YtplnpgohdgialaaOfCl
set_option maxHeartbeats 16000000
set_option maxRecDepth 20000
namespace Go.Proofs.Ytplnpgohdgialaa
open Go.RowKit
structure Ft(t:Nat)(w w':World):Prop where
 os:w'.os=w.os
 tape:w'.tape=w.tape
 output:w'.output=w.output
 size:w.heap.size<=w'.heap.size
 block:∀k,k<w.heap.size->k≠t->w'.heap[k]?=w.heap[k]?
theorem Ft.of_below{t:Nat}{w w':World}(h:Below w.heap.size w w'):Ft t w w':=⟨h.os,h.tape,h.output,h.size,fun k hk _=>h.block k hk⟩
theorem Ft.refl(t:Nat)(w:World):Ft t w w:=⟨rfl,rfl,rfl,Nat.le_refl _,fun _ _ _=>rfl⟩
theorem Ft.trans{t:Nat}{a b c:World}(h:Ft t a b)(k:Ft t b c):Ft t a c:=
 ⟨k.os.trans h.os,k.tape.trans h.tape,k.output.trans h.output,Nat.le_trans h.size k.size,fun i hi hn=>(k.block i (Nat.lt_of_lt_of_le hi h.size) hn).trans (h.block i hi hn)⟩
theorem Ft.set{t:Nat}{a b:World}(h:Ft t a b)(o:Nat)(v:Value):Ft t a (b.setCell ⟨t,o,none⟩ v):=
 ⟨h.os,h.tape,h.output,by simpa using h.size,fun i hi hn=>(Below.heap_setCell b ⟨t,o,none⟩ v i (by simpa using hn)).trans (h.block i hi hn)⟩
theorem Ft.cell{t:Nat}{w w':World}(h:Ft t w w'){b o:Nat}(hb:b<w.heap.size)(hn:b≠t):w'.cell? ⟨b,o,none⟩=w.cell? ⟨b,o,none⟩:=World.cell?_of_block (a:=⟨b,o,none⟩) (h.block b hb hn)
theorem Ft.frozen{t:Nat}{w w':World}(h:Ft t w w'){b o:Nat}(hb:b<w.heap.size)(hn:b≠t):w'.frozen? ⟨b,o,none⟩=w.frozen? ⟨b,o,none⟩:=World.frozen?_of_block (a:=⟨b,o,none⟩) (h.block b hb hn)
theorem Ft.arr{t:Nat}{w w':World}(h:Ft t w w'){b n:Nat}{f:Nat->Value}(ha:Arr w b n f)(hn:b≠t):Arr w' b n f:=
 ⟨Nat.lt_of_lt_of_le ha.1 h.size,fun i=>(h.frozen ha.1 hn).trans (ha.2.1 i),fun i hi=>(h.cell ha.1 hn).trans (ha.2.2 i hi)⟩
theorem Ft.cl{t:Nat}{w w':World}(h:Ft t w w'){b:Nat}{vs:List Value}(ha:Cl w b vs)(hn:b≠t):Cl w' b vs:=
 ⟨Nat.lt_of_lt_of_le ha.1 h.size,fun i hi=>(h.cell ha.1 hn).trans (ha.2 i hi)⟩
structure TmP(w:World)(t b n cap:Nat)(own procs dmax err pos:Int):Prop where
 C:Cl w t [.slice (some ⟨b,0,none⟩) n cap,.int .i64 own,.int .i64 procs,.int .i64 dmax,.int .i64 err,.int .i64 pos]
 F:∀i,w.frozen? ⟨t,i,none⟩=false
theorem TmP.below{w w':World}{t b n cap:Nat}{own procs dmax err pos:Int}(h:TmP w t b n cap own procs dmax err pos)(hb:Below w.heap.size w w'):TmP w' t b n cap own procs dmax err pos:=
 ⟨h.C.below hb,fun i=>(hb.frozen (p:=⟨t,i,none⟩) h.C.1).trans (h.F i)⟩
theorem tm_cells{w:World}{t b n cap:Nat}{own procs dmax err pos:Int}(h:TmP w t b n cap own procs dmax err pos):w.cell? ⟨t,0,none⟩=some (.slice (some ⟨b,0,none⟩) n cap)/\w.cell? ⟨t,1,none⟩=some (.int .i64 own)/\w.cell? ⟨t,2,none⟩=some (.int .i64 procs)/\w.cell? ⟨t,3,none⟩=some (.int .i64 dmax)/\w.cell? ⟨t,4,none⟩=some (.int .i64 err)/\w.cell? ⟨t,5,none⟩=some (.int .i64 pos):=
 ⟨h.C.2 0 (by simp),h.C.2 1 (by simp),h.C.2 2 (by simp),h.C.2 3 (by simp),h.C.2 4 (by simp),h.C.2 5 (by simp)⟩
theorem TmP.setPos{w:World}{t b n cap:Nat}{own procs dmax err pos:Int}(h:TmP w t b n cap own procs dmax err pos)(x:Int):TmP (w.setCell ⟨t,5,none⟩ (.int .i64 x)) t b n cap own procs dmax err x:=by
 obtain⟨c0,c1,c2,c3,c4,c5⟩:=tm_cells h;refine⟨⟨by simpa using h.C.1,fun i hi=>?_⟩,fun i=>by simpa using h.F i⟩;match i,hi with
 |0,_=>simp[go_sem,c0]
 |1,_=>simp[go_sem,c1]
 |2,_=>simp[go_sem,c2]
 |3,_=>simp[go_sem,c3]
 |4,_=>simp[go_sem,c4]
 |5,_=>simp[go_sem,c5]
theorem TmP.setErr{w:World}{t b n cap:Nat}{own procs dmax err pos:Int}(h:TmP w t b n cap own procs dmax err pos)(x:Int):TmP (w.setCell ⟨t,4,none⟩ (.int .i64 x)) t b n cap own procs dmax x pos:=by
 obtain⟨c0,c1,c2,c3,c4,c5⟩:=tm_cells h;refine⟨⟨by simpa using h.C.1,fun i hi=>?_⟩,fun i=>by simpa using h.F i⟩;match i,hi with
 |0,_=>simp[go_sem,c0]
 |1,_=>simp[go_sem,c1]
 |2,_=>simp[go_sem,c2]
 |3,_=>simp[go_sem,c3]
 |4,_=>simp[go_sem,c4]
 |5,_=>simp[go_sem,c5]
def NodeN(L:Nat->SV)(m:Nat)(w:World)(S:Nat->Prop)(x:Value)(p:Nat):Prop:=
 ((L p).k=1/\x=.iface 91 (.agg #[.int .i64 (p:Int),.int .i64 (L p).op,.int .i64 (L p).d,.int .i64 (L p).a,.int .i64 (L p).b,.int .i64 (L p).imm,.int .i64 (L p).h]))∨
 ((L p).k=2/\∃v1 v2,x=.iface 93 (.agg #[.int .i64 (p:Int),.int .i64 (L p).cond,v1,v2])/\RepN L m w S v1 (p+1) (p+1+(L p).thn.toNat)/\RepN L m w S v2 (p+1+(L p).thn.toNat) (p+1+(L p).thn.toNat+(L p).els.toNat))∨
 ((L p).k=3/\∃v1,x=.iface 95 (.agg #[.int .i64 (p:Int),.int .i64 (L p).cond,v1])/\RepN L m w S v1 (p+1) (p+1+(L p).thn.toNat))∨
 ((L p).k=4/\x=.iface 97 (.agg #[.int .i64 (L p).proc]))
def BlockC(L:Nat->SV)(t b n cap:Nat)(own procs dmax:Int)(m i te:Nat)(depth:Int):Prop:=
 ∀w,Arr w b (n*11) (stF L)->TmP w t b n cap own procs dmax 0 (i:Int)->Calls Try.prog 32 #[.pointer (some ⟨t,0,none⟩),.int .i64 ((te:Int)-(i:Int)),.int .i64 depth] w fun e w'=>∃(ao:Option Addr)(k c:Nat),e=.returned (.slice ao k c)/\Ft t w w'/\TmP w' t b n cap own procs dmax (chk L own procs (dmax+1) i te depth).1 (if(chk L own procs (dmax+1) i te depth).1=0 then(te:Int)else(chk L own procs (dmax+1) i te depth).2)/\((chk L own procs (dmax+1) i te depth).1=0->RepN L m w' (fun q=>w.heap.size<=q) (.slice ao k c) i te)
theorem statementOf_14(L:Nat->SV)(t b n cap:Nat)(own procs dmax:Int)(m p:Nat)(depth:Int)(w:World)(p0:p<=1048576)(hT:TmP w t b n cap own procs dmax 0 (p:Int))(hk:(L p).k=1∨(L p).k=4):
 Calls Try.prog 43 #[.pointer (some ⟨t,0,none⟩),.agg #[.int .i64 (L p).k,.int .i64 (L p).op,.int .i64 (L p).d,.int .i64 (L p).a,.int .i64 (L p).b,.int .i64 (L p).imm,.int .i64 (L p).h,.int .i64 (L p).cond,.int .i64 (L p).thn,.int .i64 (L p).els,.int .i64 (L p).proc],.int .i64 depth] w fun e w'=>∃ty a,e=.returned (.iface ty a)/\Ft t w w'/\TmP w' t b n cap own procs dmax 0 ((p:Int)+1)/\NodeN L m w' (fun q=>w.heap.size<=q) (.iface ty a) p:=by
 have HT:Hid (TmP w t b n cap own procs dmax 0 (p:Int)):=hT;have lt:=hT.C.1;clear hT;go_enter Try.func43,Try.ntmps43;go_upto_region 1 with fail;obtain⟨u,hu,hb,hc⟩:∃x,w.alloc (.cells #[.int .i64 (L p).k,.int .i64 (L p).op,.int .i64 (L p).d,.int .i64 (L p).a,.int .i64 (L p).b,.int .i64 (L p).imm,.int .i64 (L p).h,.int .i64 (L p).cond,.int .i64 (L p).thn,.int .i64 (L p).els,.int .i64 (L p).proc] 33)=x/\Below w.heap.size w x/\Cl x w.heap.size [.int .i64 (L p).k,.int .i64 (L p).op,.int .i64 (L p).d,.int .i64 (L p).a,.int .i64 (L p).b,.int .i64 (L p).imm,.int .i64 (L p).h,.int .i64 (L p).cond,.int .i64 (L p).thn,.int .i64 (L p).els,.int .i64 (L p).proc]:=⟨_,rfl,(Below.refl _ _).alloc (Nat.le_refl _) _,Cl.new⟩
 rw[hu];have T0:Hid (TmP u t b n cap own procs dmax 0 (p:Int)):=HT.out.below hb;have C0:Hid (Cl u w.heap.size [.int .i64 (L p).k,.int .i64 (L p).op,.int .i64 (L p).d,.int .i64 (L p).a,.int .i64 (L p).b,.int .i64 (L p).imm,.int .i64 (L p).h,.int .i64 (L p).cond,.int .i64 (L p).thn,.int .i64 (L p).els,.int .i64 (L p).proc]):=hc;have F0:Hid (Ft t w u):=Ft.of_below hb;clear hu hb hc HT;obtain⟨q0,q1,q2,q3,q4,q5⟩:=tm_cells T0.out;have tf:=T0.out.F;have tl:=T0.out.C.1;go_upto_region 3 with fail;clear q0 q1 q2 q3 q4 q5 tf tl;obtain⟨u1,hu1,T1,F1,C1⟩:∃x,u.setCell ⟨t,5,none⟩ (.int .i64 ((p:Int)+1))=x/\Hid (TmP x t b n cap own procs dmax 0 ((p:Int)+1))/\Hid (Ft t w x)/\Hid (Cl x w.heap.size [.int .i64 (L p).k,.int .i64 (L p).op,.int .i64 (L p).d,.int .i64 (L p).a,.int .i64 (L p).b,.int .i64 (L p).imm,.int .i64 (L p).h,.int .i64 (L p).cond,.int .i64 (L p).thn,.int .i64 (L p).els,.int .i64 (L p).proc]):=⟨_,rfl,T0.out.setPos _,F0.out.set _ _,⟨by simpa using C0.out.1,fun i hi=>(World.cell?_setCell_far _ _ _ _ (show t≠w.heap.size by omega)).trans (C0.out.2 i hi)⟩⟩
 rw[hu1];clear hu1 T0 F0 C0;obtain⟨c0,c1,c2,c3,c4,c5,c6,c7,c8,c9,c10⟩:=st_cl C1.out;have cz:=C1.out.1;rcases hk with k1|k4
 ·have e2:((L p).k==2)=false:=by simp[k1]
  have e3:((L p).k==3)=false:=by simp[k1]
  have e4:((L p).k==4)=false:=by simp[k1]
  have K:Hid ((L p).k=1):=k1;clear k1;go_wp2;go_ret;exact⟨_,_,rfl,F1.out,T1.out,.inl ⟨K.out,rfl⟩⟩
 ·have e2:((L p).k==2)=false:=by simp[k4]
  have e3:((L p).k==3)=false:=by simp[k4]
  have e4:((L p).k==4)=true:=by simp[k4]
  have K:Hid ((L p).k=4):=k4;clear k4;go_wp2;go_ret;exact⟨_,_,rfl,F1.out,T1.out,.inr (.inr (.inr ⟨K.out,rfl⟩))⟩
theorem Ft.drew{t:Nat}{a b:World}(h:Ft t a b):Ft t a b.drew:=⟨h.os,h.tape,h.output,h.size,h.block⟩
def stR(L:Nat->SV)(own procs dmax:Int)(p:Nat)(depth:Int):Int×Int:=
 if(chk L own procs (dmax+1) (p+1) (p+1+(L p).thn.toNat) (depth+1)).1≠0 then chk L own procs (dmax+1) (p+1) (p+1+(L p).thn.toNat) (depth+1)
 else if(chk L own procs (dmax+1) (p+1+(L p).thn.toNat) (p+1+(L p).thn.toNat+(L p).els.toNat) (depth+1)).1≠0 then chk L own procs (dmax+1) (p+1+(L p).thn.toNat) (p+1+(L p).thn.toNat+(L p).els.toNat) (depth+1)
 else(0,((p+1+(L p).thn.toNat+(L p).els.toNat:Nat):Int))
def StmtC(L:Nat->SV)(t b n cap:Nat)(own procs dmax:Int)(m p:Nat)(depth:Int):Prop:=
 ∀w,Arr w b (n*11) (stF L)->TmP w t b n cap own procs dmax 0 (p:Int)->Calls Try.prog 43 #[.pointer (some ⟨t,0,none⟩),.agg #[.int .i64 (L p).k,.int .i64 (L p).op,.int .i64 (L p).d,.int .i64 (L p).a,.int .i64 (L p).b,.int .i64 (L p).imm,.int .i64 (L p).h,.int .i64 (L p).cond,.int .i64 (L p).thn,.int .i64 (L p).els,.int .i64 (L p).proc],.int .i64 depth] w fun e w'=>∃ty a,e=.returned (.iface ty a)/\Ft t w w'/\TmP w' t b n cap own procs dmax (stR L own procs dmax p depth).1 (stR L own procs dmax p depth).2/\((stR L own procs dmax p depth).1=0->NodeN L m w' (fun q=>w.heap.size<=q) (.iface ty a) p)
theorem blockOf_err(t b n cap:Nat)(own procs dmax err pos size depth:Int)(w:World)(hT:TmP w t b n cap own procs dmax err pos)(he:err≠0):
 Calls Try.prog 32 #[.pointer (some ⟨t,0,none⟩),.int .i64 size,.int .i64 depth] w fun e w'=>e=.returned (.slice none 0 0)/\w'=w:=by
 obtain⟨q0,q1,q2,q3,q4,q5⟩:=tm_cells hT;have tl:=hT.C.1;have e0:(err==0)=false:=by simp[he]
 have HE:Hid (err≠0):=he;clear hT he;go_enter Try.func32,Try.ntmps32;go_wp2;go_loopw [7](fun mv wr=>mv=.slice none 0 0/\wr=w)(fun _ _=>0)
 case atStart=>exact⟨rfl,rfl⟩
 case round=>
  obtain⟨rfl,rfl⟩:=hrel;go_wp2;go_ret;exact⟨rfl,rfl⟩
theorem statementOf_3(L:Nat->SV)(t b n cap:Nat)(own procs dmax:Int)(m p:Nat)(depth:Int)(p0:p<=1048576)(d0:0<=depth)(d1:depth<=1099511627776)(hbt:b≠t)(hk:(L p).k=3)(th:0<=(L p).thn)(el:(L p).els=0)
 (h1:BlockC L t b n cap own procs dmax m (p+1) (p+1+(L p).thn.toNat) (depth+1)):StmtC L t b n cap own procs dmax m p depth:=by
 intro w hA hT
 have H1:Hid _:=h1
 clear h1
 have e2:((L p).k==2)=false:=by simp[hk]
 have e3:((L p).k==3)=true:=by simp[hk]
 have K:Hid ((L p).k=3):=hk
 have EL:Hid ((L p).els=0):=el
 clear hk el
 have HT:Hid (TmP w t b n cap own procs dmax 0 (p:Int)):=hT
 have HA:Hid (Arr w b (n*11) (stF L)):=hA
 have lt:=hT.C.1
 have lb:=hA.1
 clear hT hA
 go_enter Try.func43,Try.ntmps43
 go_upto_region 1 with fail
 obtain⟨u,hu,hb,hc⟩:∃x,w.alloc (.cells #[.int .i64 (L p).k,.int .i64 (L p).op,.int .i64 (L p).d,.int .i64 (L p).a,.int .i64 (L p).b,.int .i64 (L p).imm,.int .i64 (L p).h,.int .i64 (L p).cond,.int .i64 (L p).thn,.int .i64 (L p).els,.int .i64 (L p).proc] 33)=x/\Below w.heap.size w x/\Cl x w.heap.size [.int .i64 (L p).k,.int .i64 (L p).op,.int .i64 (L p).d,.int .i64 (L p).a,.int .i64 (L p).b,.int .i64 (L p).imm,.int .i64 (L p).h,.int .i64 (L p).cond,.int .i64 (L p).thn,.int .i64 (L p).els,.int .i64 (L p).proc]:=⟨_,rfl,(Below.refl _ _).alloc (Nat.le_refl _) _,Cl.new⟩
 rw[hu]
 have T0:Hid (TmP u t b n cap own procs dmax 0 (p:Int)):=HT.out.below hb
 have C0:Hid (Cl u w.heap.size [.int .i64 (L p).k,.int .i64 (L p).op,.int .i64 (L p).d,.int .i64 (L p).a,.int .i64 (L p).b,.int .i64 (L p).imm,.int .i64 (L p).h,.int .i64 (L p).cond,.int .i64 (L p).thn,.int .i64 (L p).els,.int .i64 (L p).proc]):=hc
 have F0:Hid (Ft t w u):=Ft.of_below hb
 clear hu hb hc HT
 obtain⟨q0,q1,q2,q3,q4,q5⟩:=tm_cells T0.out
 have tf:=T0.out.F
 have tl:=T0.out.C.1
 go_upto_region 3 with fail
 clear q0 q1 q2 q3 q4 q5 tf tl
 obtain⟨u1,hu1,T1,F1,C1⟩:∃x,u.setCell ⟨t,5,none⟩ (.int .i64 ((p:Int)+1))=x/\Hid (TmP x t b n cap own procs dmax 0 ((p:Int)+1))/\Hid (Ft t w x)/\Hid (Cl x w.heap.size [.int .i64 (L p).k,.int .i64 (L p).op,.int .i64 (L p).d,.int .i64 (L p).a,.int .i64 (L p).b,.int .i64 (L p).imm,.int .i64 (L p).h,.int .i64 (L p).cond,.int .i64 (L p).thn,.int .i64 (L p).els,.int .i64 (L p).proc]):=⟨_,rfl,T0.out.setPos _,F0.out.set _ _,⟨by simpa using C0.out.1,fun i hi=>(World.cell?_setCell_far _ _ _ _ (show t≠w.heap.size by omega)).trans (C0.out.2 i hi)⟩⟩
 rw[hu1]
 clear hu1 T0 F0 C0
 have A1:Hid (Arr u1 b (n*11) (stF L)):=F1.out.arr HA.out hbt
 have nt:w.heap.size≠t:=by omega
 clear HA
 obtain⟨c0,c1,c2,c3,c4,c5,c6,c7,c8,c9,c10⟩:=st_cl C1.out
 have cz:=C1.out.1
 go_upto_region 8 with fail
 clear c0 c1 c2 c3 c4 c5 c6 c7 c8 c9 c10
 have fd:IntKind.i64.wrap (depth+1)=depth+1:=by rw[IntKind.wrap_i64];omega
 have r7:∀w',Ft t u1 w'->w'.cell? ⟨w.heap.size,7,none⟩=some (.int .i64 (L p).cond):=fun w' h=>(h.cl C1.out nt).2 7 (by simp)
 have r8:∀w',Ft t u1 w'->w'.cell? ⟨w.heap.size,8,none⟩=some (.int .i64 (L p).thn):=fun w' h=>(h.cl C1.out nt).2 8 (by simp)
 refine wp_region_held_drew (S:=fun w'=>Ft t u1 w') (by kernel_rfl) (Ft.refl _ _).drew (fun hd0=>?_)
 have TD:Hid (TmP u1.drew t b n cap own procs dmax 0 ((p:Int)+1)):=T1.out.below (Below.refl _ _).drew
 have AD:Hid (Arr u1.drew b (n*11) (stF L)):=hd0.arr A1.out hbt
 generalize u1.drew=v0 at hd0 TD AD⊢
 refine wpAnyH_tk 0 ?k1v rfl ?k1y ?k1r
 case k1y=>(intro w hSw;(try dsimp only at hSw);go_simp;try with_reducible rfl)
 try simp only[Act.put,List.getElem_toArray,List.getElem_cons_zero,List.setIfInBounds_toArray,List.set_cons_zero,List.set_cons_succ]
 refine wpAnyH_tk 1 ?k2v rfl ?k2y ?k2r
 case k2y=>(intro w hSw;(try dsimp only at hSw);go_simp;try with_reducible rfl)
 try simp only[Act.put,List.getElem_toArray,List.getElem_cons_zero,List.getElem_cons_succ,List.setIfInBounds_toArray,List.set_cons_zero,List.set_cons_succ]
 refine wpAnyH_tk 2 ?k3v rfl ?k3y ?k3r
 case k3y=>(intro w hSw;(try dsimp only at hSw);go_simp;try with_reducible rfl)
 try simp only[Act.put,List.getElem_toArray,List.getElem_cons_zero,List.getElem_cons_succ,List.setIfInBounds_toArray,List.set_cons_zero,List.set_cons_succ]
 refine wpAnyH_tk 3 ?k4v rfl ?k4y ?k4r
 case k4y=>(intro w hSw;(try dsimp only at hSw);go_simp;try with_reducible rfl)
 try simp only[Act.put,List.getElem_toArray,List.getElem_cons_zero,List.getElem_cons_succ,List.setIfInBounds_toArray,List.set_cons_zero,List.set_cons_succ]
 refine wpAnyH_tk 4 ?k5v rfl ?k5y ?k5r
 case k5y=>(intro w hSw;(try dsimp only at hSw);go_simp;try with_reducible rfl)
 try simp only[Act.put,List.getElem_toArray,List.getElem_cons_zero,List.getElem_cons_succ,List.setIfInBounds_toArray,List.set_cons_zero,List.set_cons_succ]
 refine wpAnyH_tk 5 ?k6v rfl ?k6y ?k6r
 case k6y=>(intro w hSw;(try dsimp only at hSw);go_simp;try with_reducible rfl)
 try simp only[Act.put,List.getElem_toArray,List.getElem_cons_zero,List.getElem_cons_succ,List.setIfInBounds_toArray,List.set_cons_zero,List.set_cons_succ]
 refine wpAnyH_tk 6 ?k7v rfl ?k7y ?k7r
 case k7y=>(intro w hSw;(try dsimp only at hSw);go_simp;try with_reducible rfl)
 try simp only[Act.put,List.getElem_toArray,List.getElem_cons_zero,List.getElem_cons_succ,List.setIfInBounds_toArray,List.set_cons_zero,List.set_cons_succ]
 refine wpAnyH_tk 7 ?k8v rfl ?k8y ?k8r
 case k8y=>(intro w hSw;(try dsimp only at hSw);go_simp;try with_reducible rfl)
 try simp only[Act.put,List.getElem_toArray,List.getElem_cons_zero,List.getElem_cons_succ,List.setIfInBounds_toArray,List.set_cons_zero,List.set_cons_succ]
 refine wpAnyH_ready (rs:=[8]) (by kernel_rfl) (by simp) ?_
 refine AllReadyH.cons rfl (fun KK hK=>?_) AllReadyH.nil
 go_simp
 have hc:=H1.out v0 AD.out (by rw[show((p+1:Nat):Int)=(p:Int)+1 by omega];exact TD.out)
 rw[show(((p+1+(L p).thn.toNat:Nat):Int)-((p+1:Nat):Int))=(L p).thn by omega]at hc
 refine hc.mono ?_
 rintro e w1⟨ao1,k1,cap1,rfl,hf1,ht1,hr1⟩
 have hd1:Ft t u1 w1:=hd0.trans hf1
 have TT:Hid (TmP w1 t b n cap own procs dmax (chk L own procs (dmax+1) (p+1) (p+1+(L p).thn.toNat) (depth+1)).1 (if(chk L own procs (dmax+1) (p+1) (p+1+(L p).thn.toNat) (depth+1)).1=0 then((p+1+(L p).thn.toNat:Nat):Int)else(chk L own procs (dmax+1) (p+1) (p+1+(L p).thn.toNat) (depth+1)).2)):=ht1
 have RR:Hid ((chk L own procs (dmax+1) (p+1) (p+1+(L p).thn.toNat) (depth+1)).1=0->RepN L m w1 (fun q=>v0.heap.size<=q) (.slice ao1 k1 cap1) (p+1) (p+1+(L p).thn.toNat)):=hr1
 have SZ:Hid (w.heap.size<=v0.heap.size):=Nat.le_trans F1.out.size hd0.size
 clear hc hf1 ht1 hr1
 go_wp2_with fail
 refine hK.out _ _ hd1 (fun hHeld=>?_)
 clear hK KK
 try simp only[Act.put,List.getElem_toArray,List.getElem_cons_zero,List.getElem_cons_succ,List.setIfInBounds_toArray,List.set_cons_zero,List.set_cons_succ]
 refine wpAnyH_tk 9 ?k9v rfl ?k9y ?k9r
 case k9y=>(intro w hSw;(try dsimp only at hSw);go_simp;try with_reducible rfl)
 try simp only[Act.put,List.getElem_toArray,List.getElem_cons_zero,List.getElem_cons_succ,List.setIfInBounds_toArray,List.set_cons_zero,List.set_cons_succ]
 refine wpAnyH_tk 10 ?k10v rfl ?k10y ?k10r
 case k10y=>(intro w hSw;(try dsimp only at hSw);go_simp;try with_reducible rfl)
 try simp only[Act.put,List.getElem_toArray,List.getElem_cons_zero,List.getElem_cons_succ,List.setIfInBounds_toArray,List.set_cons_zero,List.set_cons_succ]
 refine wpAnyH_tk 11 ?k11v rfl ?k11y ?k11r
 case k11y=>(intro w hSw;(try dsimp only at hSw);go_simp;try with_reducible rfl)
 try simp only[Act.put,List.getElem_toArray,List.getElem_cons_zero,List.getElem_cons_succ,List.setIfInBounds_toArray,List.set_cons_zero,List.set_cons_succ]
 refine wpAnyH_done (by kernel_rfl) ?_ _
 clear r7 r8 hHeld
 go_wp2
 go_ret
 have hs2:stR L own procs dmax p depth=if(chk L own procs (dmax+1) (p+1) (p+1+(L p).thn.toNat) (depth+1)).1≠0 then chk L own procs (dmax+1) (p+1) (p+1+(L p).thn.toNat) (depth+1)else(0,((p+1+(L p).thn.toNat:Nat):Int)):=by
  unfold stR
  rw[EL.out,chk_end (by simp:¬p+1+(L p).thn.toNat<p+1+(L p).thn.toNat+(0:Int).toNat)]
  simp
 rw[hs2]
 refine⟨_,_,rfl,F1.out.trans hd1,?_,fun h=>?_⟩
 ·by_cases hz:(chk L own procs (dmax+1) (p+1) (p+1+(L p).thn.toNat) (depth+1)).1=0
  ·have:=TT.out
   rw[if_pos hz,hz]at this
   rw[if_neg (by simpa using hz)]
   exact this
  ·have:=TT.out
   rw[if_neg hz]at this
   rw[if_pos hz]
   exact this
 ·refine .inr (.inr (.inl ⟨K.out,_,rfl,(RR.out ?_).kept (fun q h=>Nat.le_trans SZ.out h) (fun _ _ _=>rfl)⟩))
  by_cases hz:(chk L own procs (dmax+1) (p+1) (p+1+(L p).thn.toNat) (depth+1)).1=0
  ·exact hz
  ·rw[if_pos hz]at h;exact h
theorem statementOf_2(L:Nat->SV)(t b n cap:Nat)(own procs dmax:Int)(m p:Nat)(depth:Int)(p0:p<=1048576)(d0:0<=depth)(d1:depth<=1099511627776)(hbt:b≠t)(hk:(L p).k=2)(th:0<=(L p).thn)(el:0<=(L p).els)
 (h1:BlockC L t b n cap own procs dmax m (p+1) (p+1+(L p).thn.toNat) (depth+1))(h2:BlockC L t b n cap own procs dmax m (p+1+(L p).thn.toNat) (p+1+(L p).thn.toNat+(L p).els.toNat) (depth+1)):StmtC L t b n cap own procs dmax m p depth:=by
 intro w hA hT;have H1:Hid _:=h1;have H2:Hid _:=h2;clear h1 h2;have e2:((L p).k==2)=true:=by simp[hk]
 have K:Hid ((L p).k=2):=hk;clear hk;have HT:Hid (TmP w t b n cap own procs dmax 0 (p:Int)):=hT;have HA:Hid (Arr w b (n*11) (stF L)):=hA;have lt:=hT.C.1;have lb:=hA.1;clear hT hA;go_enter Try.func43,Try.ntmps43;go_upto_region 1 with fail;obtain⟨u,hu,hb,hc⟩:∃x,w.alloc (.cells #[.int .i64 (L p).k,.int .i64 (L p).op,.int .i64 (L p).d,.int .i64 (L p).a,.int .i64 (L p).b,.int .i64 (L p).imm,.int .i64 (L p).h,.int .i64 (L p).cond,.int .i64 (L p).thn,.int .i64 (L p).els,.int .i64 (L p).proc] 33)=x/\Below w.heap.size w x/\Cl x w.heap.size [.int .i64 (L p).k,.int .i64 (L p).op,.int .i64 (L p).d,.int .i64 (L p).a,.int .i64 (L p).b,.int .i64 (L p).imm,.int .i64 (L p).h,.int .i64 (L p).cond,.int .i64 (L p).thn,.int .i64 (L p).els,.int .i64 (L p).proc]:=⟨_,rfl,(Below.refl _ _).alloc (Nat.le_refl _) _,Cl.new⟩
 rw[hu];have T0:Hid (TmP u t b n cap own procs dmax 0 (p:Int)):=HT.out.below hb;have C0:Hid (Cl u w.heap.size [.int .i64 (L p).k,.int .i64 (L p).op,.int .i64 (L p).d,.int .i64 (L p).a,.int .i64 (L p).b,.int .i64 (L p).imm,.int .i64 (L p).h,.int .i64 (L p).cond,.int .i64 (L p).thn,.int .i64 (L p).els,.int .i64 (L p).proc]):=hc;have F0:Hid (Ft t w u):=Ft.of_below hb;clear hu hb hc HT;obtain⟨q0,q1,q2,q3,q4,q5⟩:=tm_cells T0.out;have tf:=T0.out.F;have tl:=T0.out.C.1;go_upto_region 3 with fail;clear q0 q1 q2 q3 q4 q5 tf tl;obtain⟨u1,hu1,T1,F1,C1⟩:∃x,u.setCell ⟨t,5,none⟩ (.int .i64 ((p:Int)+1))=x/\Hid (TmP x t b n cap own procs dmax 0 ((p:Int)+1))/\Hid (Ft t w x)/\Hid (Cl x w.heap.size [.int .i64 (L p).k,.int .i64 (L p).op,.int .i64 (L p).d,.int .i64 (L p).a,.int .i64 (L p).b,.int .i64 (L p).imm,.int .i64 (L p).h,.int .i64 (L p).cond,.int .i64 (L p).thn,.int .i64 (L p).els,.int .i64 (L p).proc]):=⟨_,rfl,T0.out.setPos _,F0.out.set _ _,⟨by simpa using C0.out.1,fun i hi=>(World.cell?_setCell_far _ _ _ _ (show t≠w.heap.size by omega)).trans (C0.out.2 i hi)⟩⟩
 rw[hu1];clear hu1 T0 F0 C0;have A1:Hid (Arr u1 b (n*11) (stF L)):=F1.out.arr HA.out hbt;have nt:w.heap.size≠t:=by omega
 clear HA;obtain⟨c0,c1,c2,c3,c4,c5,c6,c7,c8,c9,c10⟩:=st_cl C1.out;have cz:=C1.out.1;go_wp2_with fail;clear c0 c1 c2 c3 c4 c5 c6 c7 c8 c9 c10;have hc:=H1.out u1 A1.out (by rw[show((p+1:Nat):Int)=(p:Int)+1 by omega];exact T1.out);rw[show(((p+1+(L p).thn.toNat:Nat):Int)-((p+1:Nat):Int))=(L p).thn by omega]at hc;refine hc.mono ?_;rintro e w1⟨ao1,k1,cap1,rfl,hf1,ht1,hr1⟩;obtain⟨x1,hx1⟩:∃x,chk L own procs (dmax+1) (p+1) (p+1+(L p).thn.toNat) (depth+1)=x:=⟨_,rfl⟩
 rw[hx1]at ht1 hr1;have X1:Hid (chk L own procs (dmax+1) (p+1) (p+1+(L p).thn.toNat) (depth+1)=x1):=hx1;have FA:Hid (Ft t w w1):=F1.out.trans hf1;have TA:Hid (TmP w1 t b n cap own procs dmax x1.1 (if x1.1=0 then((p+1+(L p).thn.toNat:Nat):Int)else x1.2)):=ht1;have RA:Hid (x1.1=0->RepN L m w1 (fun q=>u1.heap.size<=q) (.slice ao1 k1 cap1) (p+1) (p+1+(L p).thn.toNat)):=hr1;have AA:Hid (Arr w1 b (n*11) (stF L)):=hf1.arr A1.out hbt;have CA:Hid (Cl w1 w.heap.size [.int .i64 (L p).k,.int .i64 (L p).op,.int .i64 (L p).d,.int .i64 (L p).a,.int .i64 (L p).b,.int .i64 (L p).imm,.int .i64 (L p).h,.int .i64 (L p).cond,.int .i64 (L p).thn,.int .i64 (L p).els,.int .i64 (L p).proc]):=hf1.cl C1.out nt;have SZ:Hid (w.heap.size<=u1.heap.size):=F1.out.size;have SZ1:Hid (u1.heap.size<=w1.heap.size):=hf1.size;clear hc hf1 ht1 hr1 hx1 A1 F1 C1 T1 cz;have cz:=CA.out.1;go_upto_region 6 with fail;have fd:IntKind.i64.wrap (depth+1)=depth+1:=by rw[IntKind.wrap_i64];omega
 have r7:∀w',Ft t w1 w'->w'.cell? ⟨w.heap.size,7,none⟩=some (.int .i64 (L p).cond):=fun w' h=>(h.cl CA.out nt).2 7 (by simp)
 have r9:∀w',Ft t w1 w'->w'.cell? ⟨w.heap.size,9,none⟩=some (.int .i64 (L p).els):=fun w' h=>(h.cl CA.out nt).2 9 (by simp)
 refine wp_region_held_drew (S:=fun w'=>Ft t w1 w') (by kernel_rfl) (Ft.refl _ _).drew (fun hd0=>?_);have TD:Hid (TmP w1.drew t b n cap own procs dmax x1.1 (if x1.1=0 then((p+1+(L p).thn.toNat:Nat):Int)else x1.2)):=TA.out.below (Below.refl _ _).drew;have AD:Hid (Arr w1.drew b (n*11) (stF L)):=hd0.arr AA.out hbt;generalize w1.drew=v0 at hd0 TD AD⊢
 refine wpAnyH_tk 0 ?k12v rfl ?k12y ?k12r
 case k12y=>(intro w hSw;(try dsimp only at hSw);go_simp;try with_reducible rfl)
 try simp only[Act.put,List.getElem_toArray,List.getElem_cons_zero,List.setIfInBounds_toArray,List.set_cons_zero,List.set_cons_succ]
 refine wpAnyH_tk 1 ?k13v rfl ?k13y ?k13r
 case k13y=>(intro w hSw;(try dsimp only at hSw);go_simp;try with_reducible rfl)
 try simp only[Act.put,List.getElem_toArray,List.getElem_cons_zero,List.getElem_cons_succ,List.setIfInBounds_toArray,List.set_cons_zero,List.set_cons_succ]
 refine wpAnyH_tk 2 ?k14v rfl ?k14y ?k14r
 case k14y=>(intro w hSw;(try dsimp only at hSw);go_simp;try with_reducible rfl)
 try simp only[Act.put,List.getElem_toArray,List.getElem_cons_zero,List.getElem_cons_succ,List.setIfInBounds_toArray,List.set_cons_zero,List.set_cons_succ]
 refine wpAnyH_tk 3 ?k15v rfl ?k15y ?k15r
 case k15y=>(intro w hSw;(try dsimp only at hSw);go_simp;try with_reducible rfl)
 try simp only[Act.put,List.getElem_toArray,List.getElem_cons_zero,List.getElem_cons_succ,List.setIfInBounds_toArray,List.set_cons_zero,List.set_cons_succ]
 refine wpAnyH_tk 4 ?k16v rfl ?k16y ?k16r
 case k16y=>(intro w hSw;(try dsimp only at hSw);go_simp;try with_reducible rfl)
 try simp only[Act.put,List.getElem_toArray,List.getElem_cons_zero,List.getElem_cons_succ,List.setIfInBounds_toArray,List.set_cons_zero,List.set_cons_succ]
 refine wpAnyH_tk 5 ?k17v rfl ?k17y ?k17r
 case k17y=>(intro w hSw;(try dsimp only at hSw);go_simp;try with_reducible rfl)
 try simp only[Act.put,List.getElem_toArray,List.getElem_cons_zero,List.getElem_cons_succ,List.setIfInBounds_toArray,List.set_cons_zero,List.set_cons_succ]
 refine wpAnyH_tk 6 ?k18v rfl ?k18y ?k18r
 case k18y=>(intro w hSw;(try dsimp only at hSw);go_simp;try with_reducible rfl)
 try simp only[Act.put,List.getElem_toArray,List.getElem_cons_zero,List.getElem_cons_succ,List.setIfInBounds_toArray,List.set_cons_zero,List.set_cons_succ]
 refine wpAnyH_tk 7 ?k19v rfl ?k19y ?k19r
 case k19y=>(intro w hSw;(try dsimp only at hSw);go_simp;try with_reducible rfl)
 try simp only[Act.put,List.getElem_toArray,List.getElem_cons_zero,List.getElem_cons_succ,List.setIfInBounds_toArray,List.set_cons_zero,List.set_cons_succ]
 refine wpAnyH_tk 8 ?k20v rfl ?k20y ?k20r
 case k20y=>(intro w hSw;(try dsimp only at hSw);go_simp;try with_reducible rfl)
 try simp only[Act.put,List.getElem_toArray,List.getElem_cons_zero,List.getElem_cons_succ,List.setIfInBounds_toArray,List.set_cons_zero,List.set_cons_succ]
 refine wpAnyH_ready (rs:=[9]) (by kernel_rfl) (by simp) ?_
 refine AllReadyH.cons rfl (fun KK hK=>?_) AllReadyH.nil
 go_simp
 obtain⟨x2,hx2⟩:∃x,chk L own procs (dmax+1) (p+1+(L p).thn.toNat) (p+1+(L p).thn.toNat+(L p).els.toNat) (depth+1)=x:=⟨_,rfl⟩
 have X2:Hid (chk L own procs (dmax+1) (p+1+(L p).thn.toNat) (p+1+(L p).thn.toNat+(L p).els.toNat) (depth+1)=x2):=hx2
 have hcall:Calls Try.prog 32 #[.pointer (some ⟨t,0,none⟩),.int .i64 (L p).els,.int .i64 (depth+1)] v0 fun e w'=>∃(ao2:Option Addr)(k2 cap2:Nat),e=.returned (.slice ao2 k2 cap2)/\Ft t v0 w'/\TmP w' t b n cap own procs dmax (stR L own procs dmax p depth).1 (stR L own procs dmax p depth).2/\((stR L own procs dmax p depth).1=0->x1.1=0/\RepN L m w' (fun q=>v0.heap.size<=q) (.slice ao2 k2 cap2) (p+1+(L p).thn.toNat) (p+1+(L p).thn.toNat+(L p).els.toNat)):=by
  have hs:stR L own procs dmax p depth=if x1.1≠0 then x1 else if x2.1≠0 then x2 else(0,((p+1+(L p).thn.toNat+(L p).els.toNat:Nat):Int)):=by unfold stR;rw[X1.out,hx2]
  rw[hs]
  by_cases hz:x1.1=0
  ·have ht:=TD.out
   rw[if_pos hz,hz]at ht
   have hc:=H2.out v0 AD.out ht
   rw[show(((p+1+(L p).thn.toNat+(L p).els.toNat:Nat):Int)-((p+1+(L p).thn.toNat:Nat):Int))=(L p).els by omega,hx2]at hc
   refine hc.mono ?_
   rintro e w2⟨ao2,k2,cap2,rfl,hf2,ht2,hr2⟩
   rw[if_neg (by simpa using hz)]
   refine⟨_,_,_,rfl,hf2,?_,fun h=>⟨hz,hr2 ?_⟩⟩
   ·by_cases hy:x2.1=0
    ·rw[if_pos hy,hy]at ht2
     rw[if_neg (by simpa using hy)]
     exact ht2
    ·rw[if_neg hy]at ht2
     rw[if_pos hy]
     exact ht2
   ·by_cases hy:x2.1=0
    ·exact hy
    ·rw[if_pos hy]at h;exact h
  ·have ht:=TD.out
   rw[if_neg hz]at ht
   refine(blockOf_err t b n cap own procs dmax _ _ _ _ v0 ht hz).mono ?_
   rintro e w2⟨rfl,rfl⟩
   rw[if_pos hz]
   exact⟨_,_,_,rfl,Ft.refl _ _,ht,fun h=>absurd h hz⟩
 refine hcall.mono ?_
 clear hcall hx2
 rintro e w2⟨ao2,k2,cap2,rfl,hf2,ht2,hr2⟩
 have hd1:Ft t w1 w2:=hd0.trans hf2
 have TT:Hid (TmP w2 t b n cap own procs dmax (stR L own procs dmax p depth).1 (stR L own procs dmax p depth).2):=ht2
 have RR:Hid ((stR L own procs dmax p depth).1=0->x1.1=0/\RepN L m w2 (fun q=>v0.heap.size<=q) (.slice ao2 k2 cap2) (p+1+(L p).thn.toNat) (p+1+(L p).thn.toNat+(L p).els.toNat)):=hr2
 have FZ:Hid (w1.heap.size<=v0.heap.size):=hd0.size
 clear hf2 ht2 hr2
 go_wp2_with fail
 refine hK.out _ _ hd1 (fun hHeld=>?_)
 clear hK KK
 try simp only[Act.put,List.getElem_toArray,List.getElem_cons_zero,List.getElem_cons_succ,List.setIfInBounds_toArray,List.set_cons_zero,List.set_cons_succ]
 refine wpAnyH_tk 10 ?k21v rfl ?k21y ?k21r
 case k21y=>(intro w hSw;(try dsimp only at hSw);go_simp;try with_reducible rfl)
 try simp only[Act.put,List.getElem_toArray,List.getElem_cons_zero,List.getElem_cons_succ,List.setIfInBounds_toArray,List.set_cons_zero,List.set_cons_succ]
 refine wpAnyH_tk 11 ?k22v rfl ?k22y ?k22r
 case k22y=>(intro w hSw;(try dsimp only at hSw);go_simp;try with_reducible rfl)
 try simp only[Act.put,List.getElem_toArray,List.getElem_cons_zero,List.getElem_cons_succ,List.setIfInBounds_toArray,List.set_cons_zero,List.set_cons_succ]
 refine wpAnyH_tk 12 ?k23v rfl ?k23y ?k23r
 case k23y=>(intro w hSw;(try dsimp only at hSw);go_simp;try with_reducible rfl)
 try simp only[Act.put,List.getElem_toArray,List.getElem_cons_zero,List.getElem_cons_succ,List.setIfInBounds_toArray,List.set_cons_zero,List.set_cons_succ]
 refine wpAnyH_done (by kernel_rfl) ?_ _
 clear r7 r9 hHeld
 go_wp2
 go_ret
 refine⟨_,_,rfl,FA.out.trans hd1,TT.out,fun h=>?_⟩
 obtain⟨hz,hr⟩:=RR.out h
 have z1:=SZ.out
 have z2:=SZ1.out
 have z3:=FZ.out
 refine .inr (.inl ⟨K.out,_,_,rfl,(RA.out hz).kept (fun q h=>Nat.le_trans z1 h) (fun q h hq=>hd1.block q hq (by omega)),hr.kept (fun q h=>by omega) (fun _ _ _=>rfl)⟩)
theorem RepN.kept2{L:Nat->SV}{w w':World}{S S':Nat->Prop}(hs:∀b,S b->b<w.heap.size->S' b)(hk:∀b,S b->b<w.heap.size->w'.heap[b]?=w.heap[b]?):∀(m:Nat){v:Value}{i te:Nat},RepN L m w S v i te->RepN L m w' S' v i te
 |0,_,_,_,h=>h
 |m+1,v,i,te,h=>by
  obtain⟨xs,⟨hr,hb⟩,hl,hx⟩:=h;refine⟨xs,⟨⟨hr.1,?_⟩,fun b h=>hs b (hb b h) (hr.lt b h).2⟩,hl,fun k x p h1 h2=>?_⟩
  ·rcases hr.2 with h|⟨g,cap,cur,rfl,h1,h2,h3⟩
   ·exact .inl h
   ·have hg:g<w.heap.size:=(Array.getElem?_eq_some_iff.1 h2).1
    exact .inr ⟨g,cap,cur,rfl,h1,(hk g (hb g rfl) hg).trans h2,h3⟩
  ·rcases hx k x p h1 h2 with q|⟨q,v1,v2,e,r1,r2⟩|⟨q,v1,e,r1⟩|q
   ·exact .inl q
   ·exact .inr (.inl ⟨q,v1,v2,e,r1.kept2 hs hk m,r2.kept2 hs hk m⟩)
   ·exact .inr (.inr (.inl ⟨q,v1,e,r1.kept2 hs hk m⟩))
   ·exact .inr (.inr (.inr q))
theorem NodeN.kept2{L:Nat->SV}{m:Nat}{w w':World}{S S':Nat->Prop}{x:Value}{p:Nat}(h:NodeN L m w S x p)(hs:∀b,S b->b<w.heap.size->S' b)(hk:∀b,S b->b<w.heap.size->w'.heap[b]?=w.heap[b]?):NodeN L m w' S' x p:=by
 rcases h with q|⟨q,v1,v2,e,r1,r2⟩|⟨q,v1,e,r1⟩|q
 ·exact .inl q
 ·exact .inr (.inl ⟨q,v1,v2,e,r1.kept2 hs hk m,r2.kept2 hs hk m⟩)
 ·exact .inr (.inr (.inl ⟨q,v1,e,r1.kept2 hs hk m⟩))
 ·exact .inr (.inr (.inr q))
def tmM(t te:Nat)(w:World):Nat:=if intOf ((w.cell? ⟨t,4,none⟩).getD undef)=0 then((te:Int)+1-intOf ((w.cell? ⟨t,5,none⟩).getD undef)).toNat else 0
theorem tmM_eq{w:World}{t b n cap:Nat}{own procs dmax err pos:Int}(te:Nat)(h:TmP w t b n cap own procs dmax err pos):tmM t te w=if err=0 then((te:Int)+1-pos).toNat else 0:=by
 obtain⟨_,_,_,_,c4,c5⟩:=tm_cells h;unfold tmM;rw[c4,c5];rfl
theorem wrong_zero{s:SV}{own procs dmax room depth:Int}(h:wrongI s own procs dmax room depth=0):stOK s procs=true/\s.thn<=room/\s.els<=room-s.thn/\¬((s.k=2∨s.k=3)/\dmax<depth)/\¬(s.k=4/\s.proc<=own):=by
 unfold wrongI at h;by_cases h1:stOK s procs=false
 ·rw[if_pos h1]at h;exact absurd h (by decide)
 by_cases h2:room<s.thn∨room-s.thn<s.els
 ·rw[if_neg h1,if_pos h2]at h;exact absurd h (by decide)
 by_cases h3:(s.k=2∨s.k=3)/\dmax<depth
 ·rw[if_neg h1,if_neg h2,if_pos h3]at h;exact absurd h (by decide)
 by_cases h4:s.k=4/\s.proc<=own
 ·rw[if_neg h1,if_neg h2,if_neg h3,if_pos h4]at h;exact absurd h (by decide)
 exact⟨by simpa using h1,by omega,by omega,h3,h4⟩
theorem wrong_chk{L:Nat->SV}{own procs dmax depth:Int}{p te:Nat}(h:p<te):chk L own procs (dmax+1) p te depth=if wrongI (L p) own procs dmax ((te:Int)-(p:Int)-1) depth≠0 then(wrongI (L p) own procs dmax ((te:Int)-(p:Int)-1) depth,(p:Int))else if(stR L own procs dmax p depth).1≠0 then stR L own procs dmax p depth else chk L own procs (dmax+1) (p+1+(L p).thn.toNat+(L p).els.toNat) te depth:=by
 unfold wrongI;by_cases h1:stOK (L p) procs=false
 ·rw[chk_bad h h1,if_pos h1,if_pos (by decide)]
 obtain⟨tp,ep⟩:=st_pos (by simpa using h1:stOK (L p) procs=true);by_cases h2:(te:Int)-(p:Int)-1<(L p).thn∨(te:Int)-(p:Int)-1-(L p).thn<(L p).els
 ·rw[chk_shape h h1 (by omega),if_neg h1,if_pos h2,if_pos (by decide)]
 have h2':p+1+(L p).thn.toNat+(L p).els.toNat<=te:=by omega
 by_cases h3:((L p).k=2∨(L p).k=3)/\dmax<depth
 ·rw[chk_deep h h1 h2' ⟨h3.1,by omega⟩,if_neg h1,if_neg h2,if_pos h3,if_pos (by decide)]
 have h3':¬(((L p).k=2∨(L p).k=3)/\dmax+1<=depth):=fun g=>h3 ⟨g.1,by omega⟩
 by_cases h4:(L p).k=4/\(L p).proc<=own
 ·rw[chk_rec h h1 h2' h3' h4,if_neg h1,if_neg h2,if_neg h3,if_pos h4,if_pos (by decide)]
 rw[chk_then h h1 h2' h3' h4,if_neg h1,if_neg h2,if_neg h3,if_neg h4,if_neg (show¬((0:Int)≠0)by decide)];unfold stR;by_cases z1:(chk L own procs (dmax+1) (p+1) (p+1+(L p).thn.toNat) (depth+1)).1≠0
 ·rw[if_pos z1,if_pos z1,if_pos z1]
 rw[if_neg z1,if_neg z1];by_cases z2:(chk L own procs (dmax+1) (p+1+(L p).thn.toNat) (p+1+(L p).thn.toNat+(L p).els.toNat) (depth+1)).1≠0
 ·rw[if_pos z2,if_pos z2,if_pos z2]
 rw[if_neg z2,if_neg z2,if_neg (by simp)]
theorem stR_zero{L:Nat->SV}{own procs dmax depth:Int}{p:Nat}(h:(stR L own procs dmax p depth).1=0):stR L own procs dmax p depth=(0,((p+1+(L p).thn.toNat+(L p).els.toNat:Nat):Int)):=by
 unfold stR at h⊢;by_cases z1:(chk L own procs (dmax+1) (p+1) (p+1+(L p).thn.toNat) (depth+1)).1≠0
 ·rw[if_pos z1]at h;exact absurd h z1
 rw[if_neg z1]at h⊢;by_cases z2:(chk L own procs (dmax+1) (p+1+(L p).thn.toNat) (p+1+(L p).thn.toNat+(L p).els.toNat) (depth+1)).1≠0
 ·rw[if_pos z2]at h;exact absurd h z2
 rw[if_neg z2]
theorem stR_flat{L:Nat->SV}{own procs dmax depth:Int}{p:Nat}(h1:(L p).thn=0)(h2:(L p).els=0):stR L own procs dmax p depth=(0,(p:Int)+1):=by
 unfold stR;rw[h1,h2,chk_end (by simp),chk_end (by simp)];simp
theorem row_slice{w:World}{base e size n:Nat}{v:Value}{xs:List Value}(h:w.ownsRow base e size v n xs):∃(ao:Option Addr)(k c:Nat),v=.slice ao k c:=by
 rcases h.2 with⟨h',_⟩|⟨g,cap,cur,rfl,_⟩
 ·exact⟨_,_,_,h'⟩
 ·exact⟨_,_,_,rfl⟩
def BInv(L:Nat->SV)(t b n cap:Nat)(own procs dmax:Int)(m i te:Nat)(depth:Int)(w:World)(mv:Value)(wr:World):Prop:=
 ∃(xs:List Value)(errv posv:Int),Ft t w wr/\TmP wr t b n cap own procs dmax errv posv/\wr.ownsRow 0 89 1 mv xs.length xs/\(∀g,mv.ownBlock=some g->w.heap.size<=g)/\((errv≠0/\chk L own procs (dmax+1) i te depth=(errv,posv))∨(errv=0/\∃(p:Nat)(dn:List Nat),posv=(p:Int)/\i<=p/\p<=te/\chk L own procs (dmax+1) p te depth=chk L own procs (dmax+1) i te depth/\tops L i te=dn++tops L p te/\xs.length=dn.length/\xs.length<=p/\∀(k:Nat)(x:Value)(q:Nat),xs[k]?=some x->dn[k]?=some q->NodeN L m wr (fun g=>w.heap.size<=g/\mv.ownBlock≠some g) x q))
theorem BInv.ends{L:Nat->SV}{t b n cap:Nat}{own procs dmax:Int}{m i te:Nat}{depth:Int}{w:World}{mv:Value}{wr:World}{xs:List Value}{errv posv:Int}{res:Int×Int}{ps:Int}(hres:chk L own procs (dmax+1) i te depth=res)(hps:(if res.1=0 then(te:Int)else res.2)=ps)(f:Ft t w wr)(T:TmP wr t b n cap own procs dmax errv posv)(o:wr.ownsRow 0 89 1 mv xs.length xs)(ob:∀g,mv.ownBlock=some g->w.heap.size<=g)
 (hc:(errv≠0/\chk L own procs (dmax+1) i te depth=(errv,posv))∨(errv=0/\posv=(te:Int)/\∃dn:List Nat,chk L own procs (dmax+1) i te depth=(0,0)/\tops L i te=dn/\xs.length=dn.length/\∀(k:Nat)(x:Value)(q:Nat),xs[k]?=some x->dn[k]?=some q->NodeN L m wr (fun g=>w.heap.size<=g/\mv.ownBlock≠some g) x q)):
 ∃(ao:Option Addr)(k c:Nat),(Ending.returned mv)=.returned (.slice ao k c)/\Ft t w wr/\TmP wr t b n cap own procs dmax res.1 ps/\(res.1=0->RepN L (m+1) wr (fun q=>w.heap.size<=q) (.slice ao k c) i te):=by
 subst hps hres;obtain⟨ao,k,c,rfl⟩:=row_slice o;refine⟨ao,k,c,rfl,f,?_,fun h0=>?_⟩
 ·rcases hc with⟨h1,h2⟩|⟨h1,h2,dn,h3,_⟩
  ·rw[h2]
   simp only[if_neg h1];exact T
  ·rw[h3]
   simp only[if_true];rw[<-h1,<-h2];exact T
 ·rcases hc with⟨h1,h2⟩|⟨h1,h2,dn,h3,h4,h5,h6⟩
  ·rw[h2]at h0;exact absurd h0 h1
  ·refine⟨xs,⟨o,ob⟩,by rw[h4];exact h5,fun k x p hk hp=>?_⟩
   rw[h4]at hp;exact(h6 k x p hk hp).kept2 (fun b h _=>h.1) (fun _ _ _=>rfl)
theorem info_statement:(Try.prog.info? 89).map (fun i=>(i.zero,i.size,i.bytes))=some (some .nilIface,1,16):=by kernel_rfl
theorem Ft.grown{t:Nat}{w u w1:World}{ob:Option Nat}(h:Ft t w u)(g:u.grownBy w1 ob)(ho:∀k,ob=some k->w.heap.size<=k):Ft t w w1:=
 ⟨g.os.trans h.os,g.tape.trans h.tape,g.output.trans h.output,Nat.le_trans h.size g.size,fun k hk hn=>(g.block k (Nat.lt_of_lt_of_le hk h.size) (fun e=>by have:=ho k e.symm;omega)).trans (h.block k hk hn)⟩
theorem TmP.grown{t b n cap:Nat}{own procs dmax err pos:Int}{u w1:World}{ob:Option Nat}(h:TmP u t b n cap own procs dmax err pos)(g:u.grownBy w1 ob)(ho:ob≠some t):TmP w1 t b n cap own procs dmax err pos:=
 have e:w1.heap[t]?=u.heap[t]?:=g.block t h.C.1 (fun e=>ho e.symm)
 ⟨⟨Nat.lt_of_lt_of_le h.C.1 g.size,fun i hi=>(World.cell?_of_block (a:=⟨t,i,none⟩) e).trans (h.C.2 i hi)⟩,fun i=>(World.frozen?_of_block (a:=⟨t,i,none⟩) e).trans (h.F i)⟩
theorem row_ft{t:Nat}{w w':World}{base e size n:Nat}{v:Value}{xs:List Value}(h:w.ownsRow base e size v n xs)(f:Ft t w w')(hn:v.ownBlock≠some t):w'.ownsRow base e size v n xs:=by
 refine⟨h.1,?_⟩;rcases h.2 with h'|⟨g,cap,cur,rfl,h1,h2,h3⟩
 ·exact .inl h'
 ·have hg:g<w.heap.size:=(Array.getElem?_eq_some_iff.1 h2).1
  exact .inr ⟨g,cap,cur,rfl,h1,(f.block g hg (fun e=>hn (by rw[e];rfl))).trans h2,h3⟩
theorem BInv.bad{L:Nat->SV}{t b n cap:Nat}{own procs dmax:Int}{m i te p:Nat}{depth:Int}{w wr u3:World}{mv:Value}{xs:List Value}(lt:t<w.heap.size)(F0:Ft t w wr)(O0:wr.ownsRow 0 89 1 mv xs.length xs)(OB:∀g,mv.ownBlock=some g->w.heap.size<=g)(hpt:p<te)
 (hc:chk L own procs (dmax+1) p te depth=chk L own procs (dmax+1) i te depth)(F3:Ft t wr u3)(T3:TmP u3 t b n cap own procs dmax (wrongI (L p) own procs dmax ((te:Int)-(p:Int)-1) depth) (p:Int))(hw:wrongI (L p) own procs dmax ((te:Int)-(p:Int)-1) depth≠0):
 BInv L t b n cap own procs dmax m i te depth w mv u3/\tmM t te u3=0:=by
 refine⟨⟨xs,_,_,F0.trans F3,T3,row_ft O0 F3 (fun e=>by have:=OB t e;omega),OB,.inl ⟨hw,?_⟩⟩,?_⟩
 ·rw[<-hc,wrong_chk hpt,if_pos hw]
 ·rw[tmM_eq te T3,if_neg hw]
theorem BInv.more{L:Nat->SV}{t b n cap:Nat}{own procs dmax:Int}{m i te p:Nat}{depth:Int}{w wr u3 u4 w1:World}{mv v' x:Value}{xs:List Value}{dn:List Nat}{bl:Obj}(lt:t<w.heap.size)(F0:Ft t w wr)(O0:wr.ownsRow 0 89 1 mv xs.length xs)(OB:∀g,mv.ownBlock=some g->w.heap.size<=g)(hip:i<=p)(hpt:p<te)
 (hc:chk L own procs (dmax+1) p te depth=chk L own procs (dmax+1) i te depth)(ht:tops L i te=dn++tops L p te)(hl:xs.length=dn.length)(hx:xs.length<=p)(N0:∀(k:Nat)(x:Value)(q:Nat),xs[k]?=some x->dn[k]?=some q->NodeN L m wr (fun g=>w.heap.size<=g/\mv.ownBlock≠some g) x q)
 (F3:Ft t wr u3)(F4:Ft t u3 u4)(T4:TmP u4 t b n cap own procs dmax (stR L own procs dmax p depth).1 (stR L own procs dmax p depth).2)(N4:(stR L own procs dmax p depth).1=0->NodeN L m u4 (fun q=>u3.heap.size<=q) x p)
 (hw:wrongI (L p) own procs dmax ((te:Int)-(p:Int)-1) depth=0)(O1:w1.ownsRow 0 89 1 v' (xs.length+1) (xs++[x]))(G:(u4.alloc bl).grownBy w1 mv.ownBlock)(ha:v'.ownBlock=mv.ownBlock∨v'.ownBlock=some (u4.heap.size+1)):
 BInv L t b n cap own procs dmax m i te depth w v' w1/\tmM t te w1<te+1-p:=by
 obtain⟨hok,h1,h2,_,_⟩:=wrong_zero hw;obtain⟨tp,ep⟩:=st_pos hok;have bA:Below u4.heap.size u4 (u4.alloc bl):=(Below.refl _ _).alloc (Nat.le_refl _) _;have zA:(u4.alloc bl).heap.size=u4.heap.size+1:=by simp
 have z0:=F0.size;have z3:=F3.size;have z4:=F4.size;have FU:Ft t w (u4.alloc bl):=((F0.trans F3).trans F4).trans (Ft.of_below bA);have F1:Ft t w w1:=FU.grown G OB;have T1:=(T4.below bA).grown G (fun e=>by have:=OB t e;omega);have OB1:∀g,v'.ownBlock=some g->w.heap.size<=g:=fun g hg=>by
  rcases ha with e|e
  ·exact OB g (e▸hg)
  ·rw[e]at hg;have:=Option.some.inj hg;omega
 have hlen:(xs++[x]).length=xs.length+1:=by simp
 have O1':w1.ownsRow 0 89 1 v' (xs++[x]).length (xs++[x]):=by rw[hlen];exact O1
 by_cases hs:(stR L own procs dmax p depth).1=0
 rotate_left
 ·refine⟨⟨_,_,_,F1,T1,O1',OB1,.inl ⟨hs,?_⟩⟩,?_⟩
  ·rw[<-hc,wrong_chk hpt,if_neg (by simpa using hw),if_pos hs]
  ·rw[tmM_eq te T1,if_neg hs];omega
 ·have hz:=stR_zero hs
  have N4':=N4 hs;rw[hz]at T1;refine⟨⟨_,_,_,F1,T1,O1',OB1,.inr ⟨rfl,p+1+(L p).thn.toNat+(L p).els.toNat,dn++[p],rfl,by omega,by omega,?_,?_,by simp[hl],by omega,?_⟩⟩,?_⟩
  ·rw[<-hc,wrong_chk hpt,if_neg (by simpa using hw),if_neg (by simpa using hs)]
  ·rw[ht,tops_more hpt];simp
  ·intro k x' q hk hq
   by_cases e:k<xs.length
   ·rw[List.getElem?_append_left e]at hk
    rw[List.getElem?_append_left (by omega)]at hq;refine(N0 k x' q hk hq).kept2 (fun g⟨g1,g2⟩hg=>⟨g1,fun e'=>?_⟩) (fun g⟨g1,g2⟩hg=>?_)
    ·rcases ha with e2|e2
     ·exact g2 (e2▸e')
     ·rw[e2]at e';have:=Option.some.inj e';omega
    ·exact(G.block g (by omega) (fun e'=>g2 e'.symm)).trans ((bA.block g (by omega)).trans ((F4.block g (by omega) (by omega)).trans (F3.block g hg (by omega))))
   ·have ek:k=xs.length:=by
     have:=(List.getElem?_eq_some_iff.1 hk).1;simp at this;omega
    subst ek;simp at hk;rw[hl]at hq;simp at hq;subst hk hq;refine N4'.kept2 (fun g g1 hg=>⟨by omega,fun e'=>?_⟩) (fun g g1 hg=>?_)
    ·rcases ha with e2|e2
     ·rw[e2]at e';have:=(O0.lt g e').2;omega
     ·rw[e2]at e';have:=Option.some.inj e';omega
    ·exact(G.block g (by omega) (fun e'=>by have:=(O0.lt g e'.symm).2;omega)).trans (bA.block g hg)
  ·rw[tmM_eq te T1,if_pos rfl];omega
theorem blockOf_go(L:Nat->SV)(t b n cap:Nat)(own procs dmax:Int)(m i te:Nat)(depth:Int)(hbt:b≠t)(ln:n<=1048576)(hit:i<=te)(htn:te<=n)
 (hS:∀p,i<=p->p<te->wrongI (L p) own procs dmax ((te:Int)-(p:Int)-1) depth=0->StmtC L t b n cap own procs dmax m p depth):BlockC L t b n cap own procs dmax (m+1) i te depth:=by
 intro w hA hT
 obtain⟨res,hres⟩:∃x,chk L own procs (dmax+1) i te depth=x:=⟨_,rfl⟩
 rw[hres]
 have HRES:Hid (chk L own procs (dmax+1) i te depth=res):=hres
 obtain⟨ps,hps⟩:∃y:Int,(if res.1=0 then(te:Int)else res.2)=y:=⟨_,rfl⟩
 rw[hps]
 have HPS:Hid ((if res.1=0 then(te:Int)else res.2)=ps):=hps
 clear hres hps
 have HS:Hid _:=hS
 have HA:Hid (Arr w b (n*11) (stF L)):=hA
 have HT:Hid (TmP w t b n cap own procs dmax 0 (i:Int)):=hT
 have lt:=hT.C.1
 have lb:=hA.1
 obtain⟨q0,q1,q2,q3,q4,q5⟩:=tm_cells hT
 clear hA hT hS
 have fe:IntKind.i64.wrap ((i:Int)+((te:Int)-(i:Int)))=(te:Int):=by rw[IntKind.wrap_i64];omega
 go_enter Try.func32,Try.ntmps32
 go_wp2
 clear q0 q1 q2 q3 q4 q5
 try rw[show(i:Int)+((te:Int)-(i:Int))=(te:Int)by omega]
 go_loopw [7](fun mv wr=>BInv L t b n cap own procs dmax m i te depth w mv wr)(fun _ wr=>tmM t te wr)
 case atStart=>exact⟨[],0,_,Ft.refl _ _,HT.out,⟨by simp,.inl ⟨rfl,by simp⟩⟩,(fun g hg=>by cases hg),.inr ⟨rfl,i,[],rfl,Nat.le_refl _,hit,rfl,rfl,rfl,Nat.zero_le _,fun k x q h=>by simp at h⟩⟩
 case round=>
  obtain⟨xs,errv,posv,f0,t0,o0,ob0,hcase⟩:=hrel
  obtain⟨ao7,k7,c7,rfl⟩:=row_slice o0
  have F0:Hid (Ft t w wr):=f0
  have O0:Hid (wr.ownsRow 0 89 1 (.slice ao7 k7 c7) xs.length xs):=o0
  have OB0:Hid (∀g,(Value.slice ao7 k7 c7).ownBlock=some g->w.heap.size<=g):=ob0
  have T0:Hid (TmP wr t b n cap own procs dmax errv posv):=t0
  clear f0 o0 ob0 t0
  obtain⟨q0,q1,q2,q3,q4,q5⟩:=tm_cells T0.out
  have tl:=T0.out.C.1
  have tf:=T0.out.F
  rcases hcase with⟨he,hce⟩|⟨he,p,dn,hpos,hip,hpt,hcp,htp,hln,hxp,hnp⟩
  ·have e0:(errv==0)=false:=by simp[he]
   have HE:Hid (errv≠0/\chk L own procs (dmax+1) i te depth=(errv,posv)):=⟨he,hce⟩
   clear he hce
   go_wp2
   go_ret
   exact BInv.ends (L:=L) (m:=m) (i:=i) (te:=te) (depth:=depth) HRES.out HPS.out F0.out T0.out O0.out OB0.out (.inl HE.out)
  subst he hpos
  have HC:Hid (chk L own procs (dmax+1) p te depth=chk L own procs (dmax+1) i te depth):=hcp
  have HTP:Hid (tops L i te=dn++tops L p te):=htp
  have HLN:Hid (xs.length=dn.length):=hln
  have HN:Hid (∀(k:Nat)(x:Value)(q:Nat),xs[k]?=some x->dn[k]?=some q->NodeN L m wr (fun g=>w.heap.size<=g/\(Value.slice ao7 k7 c7).ownBlock≠some g) x q):=hnp
  clear hcp htp hln hnp
  by_cases hlt:p<te
  rotate_left
  ·have hlt':¬(p:Int)<(te:Int):=by omega
   go_wp2
   go_ret
   refine BInv.ends (L:=L) (m:=m) (i:=i) (te:=te) (depth:=depth) HRES.out HPS.out F0.out T0.out O0.out OB0.out (.inr ⟨rfl,by omega,dn,?_,?_,HLN.out,HN.out⟩)
   ·rw[<-HC.out,chk_end hlt]
   ·rw[HTP.out,tops_end hlt];simp
  have hlt':(p:Int)<(te:Int):=by omega
  have hpn:(p:Int)<(n:Int):=by omega
  go_upto_region 4 with fail
  clear q0 q1 q2 q3 q4 q5
  have A0:Hid (Arr wr b (n*11) (stF L)):=F0.out.arr HA.out hbt
  have r0:∀w',Below wr.heap.size wr w'->w'.cell? ⟨t,0,none⟩=some (.slice (some ⟨b,0,none⟩) n cap):=fun w' h=>(T0.out.below h).C.2 0 (by simp)
  have r5:∀w',Below wr.heap.size wr w'->w'.cell? ⟨t,5,none⟩=some (.int .i64 (p:Int)):=fun w' h=>(T0.out.below h).C.2 5 (by simp)
  have s0:∀w',Below wr.heap.size wr w'->w'.cell? ⟨b,p*11,none⟩=some (.int .i64 (L p).k):=fun w' h=>(st_at (n:=n) (A0.out.below h A0.out.lt) p (by omega)).1
  have s1:∀w',Below wr.heap.size wr w'->w'.cell? ⟨b,p*11+1,none⟩=some (.int .i64 (L p).op):=fun w' h=>(st_at (n:=n) (A0.out.below h A0.out.lt) p (by omega)).2.1
  have s2:∀w',Below wr.heap.size wr w'->w'.cell? ⟨b,p*11+2,none⟩=some (.int .i64 (L p).d):=fun w' h=>(st_at (n:=n) (A0.out.below h A0.out.lt) p (by omega)).2.2.1
  have s3:∀w',Below wr.heap.size wr w'->w'.cell? ⟨b,p*11+3,none⟩=some (.int .i64 (L p).a):=fun w' h=>(st_at (n:=n) (A0.out.below h A0.out.lt) p (by omega)).2.2.2.1
  have s4:∀w',Below wr.heap.size wr w'->w'.cell? ⟨b,p*11+4,none⟩=some (.int .i64 (L p).b):=fun w' h=>(st_at (n:=n) (A0.out.below h A0.out.lt) p (by omega)).2.2.2.2.1
  have s5:∀w',Below wr.heap.size wr w'->w'.cell? ⟨b,p*11+5,none⟩=some (.int .i64 (L p).imm):=fun w' h=>(st_at (n:=n) (A0.out.below h A0.out.lt) p (by omega)).2.2.2.2.2.1
  have s6:∀w',Below wr.heap.size wr w'->w'.cell? ⟨b,p*11+6,none⟩=some (.int .i64 (L p).h):=fun w' h=>(st_at (n:=n) (A0.out.below h A0.out.lt) p (by omega)).2.2.2.2.2.2.1
  have s7:∀w',Below wr.heap.size wr w'->w'.cell? ⟨b,p*11+7,none⟩=some (.int .i64 (L p).cond):=fun w' h=>(st_at (n:=n) (A0.out.below h A0.out.lt) p (by omega)).2.2.2.2.2.2.2.1
  have s8:∀w',Below wr.heap.size wr w'->w'.cell? ⟨b,p*11+8,none⟩=some (.int .i64 (L p).thn):=fun w' h=>(st_at (n:=n) (A0.out.below h A0.out.lt) p (by omega)).2.2.2.2.2.2.2.2.1
  have s9:∀w',Below wr.heap.size wr w'->w'.cell? ⟨b,p*11+9,none⟩=some (.int .i64 (L p).els):=fun w' h=>(st_at (n:=n) (A0.out.below h A0.out.lt) p (by omega)).2.2.2.2.2.2.2.2.2.1
  have s10:∀w',Below wr.heap.size wr w'->w'.cell? ⟨b,p*11+10,none⟩=some (.int .i64 (L p).proc):=fun w' h=>(st_at (n:=n) (A0.out.below h A0.out.lt) p (by omega)).2.2.2.2.2.2.2.2.2.2
  refine wp_region_held_drew (S:=fun w'=>Below wr.heap.size wr w') (by kernel_rfl) (Below.refl _ _).drew (fun hd0=>?_)
  generalize wr.drew=v0 at hd0⊢
  refine wpAnyH_tk 0 ?k1v rfl ?k1y ?k1r
  case k1y=>(intro w hSw;(try dsimp only at hSw);go_simp;try with_reducible rfl)
  try simp only[Act.put,List.getElem_toArray,List.getElem_cons_zero,List.setIfInBounds_toArray,List.set_cons_zero,List.set_cons_succ]
  refine wpAnyH_tk 1 ?k2v rfl ?k2y ?k2r
  case k2y=>(intro w hSw;(try dsimp only at hSw);go_simp;try with_reducible rfl)
  try simp only[Act.put,List.getElem_toArray,List.getElem_cons_zero,List.getElem_cons_succ,List.setIfInBounds_toArray,List.set_cons_zero,List.set_cons_succ]
  refine wpAnyH_tk 2 ?k3v rfl ?k3y ?k3r
  case k3y=>(intro w hSw;(try dsimp only at hSw);go_simp;try with_reducible rfl)
  try simp only[Act.put,List.getElem_toArray,List.getElem_cons_zero,List.getElem_cons_succ,List.setIfInBounds_toArray,List.set_cons_zero,List.set_cons_succ]
  refine wpAnyH_tk 3 ?k4v rfl ?k4y ?k4r
  case k4y=>(intro w hSw;(try dsimp only at hSw);go_simp;try with_reducible rfl)
  try simp only[Act.put,List.getElem_toArray,List.getElem_cons_zero,List.getElem_cons_succ,List.setIfInBounds_toArray,List.set_cons_zero,List.set_cons_succ]
  refine wpAnyH_tk 4 ?k5v rfl ?k5y ?k5r
  case k5y=>(intro w hSw;(try dsimp only at hSw);go_simp;try with_reducible rfl)
  try simp only[Act.put,List.getElem_toArray,List.getElem_cons_zero,List.getElem_cons_succ,List.setIfInBounds_toArray,List.set_cons_zero,List.set_cons_succ]
  refine wpAnyH_tk 5 ?k6v rfl ?k6y ?k6r
  case k6y=>(intro w hSw;(try dsimp only at hSw);go_simp;try with_reducible rfl)
  try simp only[Act.put,List.getElem_toArray,List.getElem_cons_zero,List.getElem_cons_succ,List.setIfInBounds_toArray,List.set_cons_zero,List.set_cons_succ]
  refine wpAnyH_tk 6 ?k7v rfl ?k7y ?k7r
  case k7y=>(intro w hSw;(try dsimp only at hSw);go_simp;try with_reducible rfl)
  try simp only[Act.put,List.getElem_toArray,List.getElem_cons_zero,List.getElem_cons_succ,List.setIfInBounds_toArray,List.set_cons_zero,List.set_cons_succ]
  refine wpAnyH_tk 7 ?k8v rfl ?k8y ?k8r
  case k8y=>(intro w hSw;(try dsimp only at hSw);go_simp;try with_reducible rfl)
  try simp only[Act.put,List.getElem_toArray,List.getElem_cons_zero,List.getElem_cons_succ,List.setIfInBounds_toArray,List.set_cons_zero,List.set_cons_succ]
  refine wpAnyH_tk 8 ?k9v rfl ?k9y ?k9r
  case k9y=>(intro w hSw;(try dsimp only at hSw);go_simp;try with_reducible rfl)
  try simp only[Act.put,List.getElem_toArray,List.getElem_cons_zero,List.getElem_cons_succ,List.setIfInBounds_toArray,List.set_cons_zero,List.set_cons_succ]
  refine wpAnyH_tk 9 ?k10v rfl ?k10y ?k10r
  case k10y=>(intro w hSw;(try dsimp only at hSw);go_simp;try with_reducible rfl)
  try simp only[Act.put,List.getElem_toArray,List.getElem_cons_zero,List.getElem_cons_succ,List.setIfInBounds_toArray,List.set_cons_zero,List.set_cons_succ]
  refine wpAnyH_ready (rs:=[10]) (by kernel_rfl) (by simp) ?_
  refine AllReadyH.cons rfl (fun KK hK=>?_) AllReadyH.nil
  go_simp
  refine hK.out _ _ (hd0.alloc hd0.size _) (fun hHeld=>?_)
  clear hK KK
  try simp only[Act.put,List.getElem_toArray,List.getElem_cons_zero,List.getElem_cons_succ,List.setIfInBounds_toArray,List.set_cons_zero,List.set_cons_succ]
  refine wpAnyH_ready (rs:=[11]) (by kernel_rfl) (by simp) ?_
  refine AllReadyH.cons rfl (fun KK hK=>?_) AllReadyH.nil
  go_simp
  refine hK.out _ _ (hd0.alloc hd0.size _) (fun hHeld=>?_)
  clear hK KK
  try simp only[Act.put,List.getElem_toArray,List.getElem_cons_zero,List.getElem_cons_succ,List.setIfInBounds_toArray,List.set_cons_zero,List.set_cons_succ]
  refine wpAnyH_done (by kernel_rfl) ?_ _
  obtain⟨u1,hu1,hb1,hc1⟩:∃x,v0.alloc (.cells #[.int .i64 (L p).k,.int .i64 (L p).op,.int .i64 (L p).d,.int .i64 (L p).a,.int .i64 (L p).b,.int .i64 (L p).imm,.int .i64 (L p).h,.int .i64 (L p).cond,.int .i64 (L p).thn,.int .i64 (L p).els,.int .i64 (L p).proc] 33)=x/\Below wr.heap.size wr x/\Cl x v0.heap.size [.int .i64 (L p).k,.int .i64 (L p).op,.int .i64 (L p).d,.int .i64 (L p).a,.int .i64 (L p).b,.int .i64 (L p).imm,.int .i64 (L p).h,.int .i64 (L p).cond,.int .i64 (L p).thn,.int .i64 (L p).els,.int .i64 (L p).proc]:=⟨_,rfl,hd0.alloc hd0.size _,Cl.new⟩
  rw[hu1]
  have C1:Hid (Cl u1 v0.heap.size [.int .i64 (L p).k,.int .i64 (L p).op,.int .i64 (L p).d,.int .i64 (L p).a,.int .i64 (L p).b,.int .i64 (L p).imm,.int .i64 (L p).h,.int .i64 (L p).cond,.int .i64 (L p).thn,.int .i64 (L p).els,.int .i64 (L p).proc]):=hc1
  have T1:Hid (TmP u1 t b n cap own procs dmax 0 (p:Int)):=T0.out.below hb1
  have F1:Hid (Ft t wr u1):=Ft.of_below hb1
  have A1:Hid (Arr u1 b (n*11) (stF L)):=A0.out.below hb1 A0.out.lt
  have nt:t<v0.heap.size:=Nat.lt_of_lt_of_le tl hd0.size
  have nl:v0.heap.size<u1.heap.size:=hc1.1
  clear hu1 hb1 hc1 hd0 hHeld r0 r5 s0 s1 s2 s3 s4 s5 s6 s7 s8 s9 s10 A0 tl tf
  generalize v0.heap.size=sb at *
  go_upto_region 5 with fail
  have tl:=T1.out.C.1
  have tf:=T1.out.F
  have s0:∀w',Below u1.heap.size u1 w'->w'.cell? ⟨sb,0,none⟩=some (.int .i64 (L p).k):=fun w' h=>(C1.out.below h).2 0 (by simp)
  have s1:∀w',Below u1.heap.size u1 w'->w'.cell? ⟨sb,1,none⟩=some (.int .i64 (L p).op):=fun w' h=>(C1.out.below h).2 1 (by simp)
  have s2:∀w',Below u1.heap.size u1 w'->w'.cell? ⟨sb,2,none⟩=some (.int .i64 (L p).d):=fun w' h=>(C1.out.below h).2 2 (by simp)
  have s3:∀w',Below u1.heap.size u1 w'->w'.cell? ⟨sb,3,none⟩=some (.int .i64 (L p).a):=fun w' h=>(C1.out.below h).2 3 (by simp)
  have s4:∀w',Below u1.heap.size u1 w'->w'.cell? ⟨sb,4,none⟩=some (.int .i64 (L p).b):=fun w' h=>(C1.out.below h).2 4 (by simp)
  have s5:∀w',Below u1.heap.size u1 w'->w'.cell? ⟨sb,5,none⟩=some (.int .i64 (L p).imm):=fun w' h=>(C1.out.below h).2 5 (by simp)
  have s6:∀w',Below u1.heap.size u1 w'->w'.cell? ⟨sb,6,none⟩=some (.int .i64 (L p).h):=fun w' h=>(C1.out.below h).2 6 (by simp)
  have s7:∀w',Below u1.heap.size u1 w'->w'.cell? ⟨sb,7,none⟩=some (.int .i64 (L p).cond):=fun w' h=>(C1.out.below h).2 7 (by simp)
  have s8:∀w',Below u1.heap.size u1 w'->w'.cell? ⟨sb,8,none⟩=some (.int .i64 (L p).thn):=fun w' h=>(C1.out.below h).2 8 (by simp)
  have s9:∀w',Below u1.heap.size u1 w'->w'.cell? ⟨sb,9,none⟩=some (.int .i64 (L p).els):=fun w' h=>(C1.out.below h).2 9 (by simp)
  have s10:∀w',Below u1.heap.size u1 w'->w'.cell? ⟨sb,10,none⟩=some (.int .i64 (L p).proc):=fun w' h=>(C1.out.below h).2 10 (by simp)
  have r5:∀w',Below u1.heap.size u1 w'->w'.cell? ⟨t,5,none⟩=some (.int .i64 (p:Int)):=fun w' h=>(T1.out.below h).C.2 5 (by simp)
  have fd:IntKind.i64.wrap ((te:Int)-(p:Int))=(te:Int)-(p:Int):=by rw[IntKind.wrap_i64];omega
  have fd2:IntKind.i64.wrap ((te:Int)-(p:Int)-1)=(te:Int)-(p:Int)-1:=by rw[IntKind.wrap_i64];omega
  refine wp_region_L (T:=fun w'=>Below u1.heap.size u1 w') (s:=14) (by kernel_rfl) (Below.refl _ _).drew (fun hHeld=>?_)
  refine wpAnyL_tk 0 ?k11v rfl ?k11y ?k11r
  case k11y=>(intro w hSw;(try dsimp only at hSw);go_simp;try with_reducible rfl)
  try simp only[Act.put,List.getElem_toArray,List.getElem_cons_zero,List.setIfInBounds_toArray,List.set_cons_zero,List.set_cons_succ]
  refine wpAnyL_tk 1 ?k12v rfl ?k12y ?k12r
  case k12y=>(intro w hSw;(try dsimp only at hSw);go_simp;try with_reducible rfl)
  try simp only[Act.put,List.getElem_toArray,List.getElem_cons_zero,List.getElem_cons_succ,List.setIfInBounds_toArray,List.set_cons_zero,List.set_cons_succ]
  refine wpAnyL_tk 2 ?k13v rfl ?k13y ?k13r
  case k13y=>(intro w hSw;(try dsimp only at hSw);go_simp;try with_reducible rfl)
  try simp only[Act.put,List.getElem_toArray,List.getElem_cons_zero,List.getElem_cons_succ,List.setIfInBounds_toArray,List.set_cons_zero,List.set_cons_succ]
  refine wpAnyL_tk 3 ?k14v rfl ?k14y ?k14r
  case k14y=>(intro w hSw;(try dsimp only at hSw);go_simp;try with_reducible rfl)
  try simp only[Act.put,List.getElem_toArray,List.getElem_cons_zero,List.getElem_cons_succ,List.setIfInBounds_toArray,List.set_cons_zero,List.set_cons_succ]
  refine wpAnyL_tk 4 ?k15v rfl ?k15y ?k15r
  case k15y=>(intro w hSw;(try dsimp only at hSw);go_simp;try with_reducible rfl)
  try simp only[Act.put,List.getElem_toArray,List.getElem_cons_zero,List.getElem_cons_succ,List.setIfInBounds_toArray,List.set_cons_zero,List.set_cons_succ]
  refine wpAnyL_tk 5 ?k16v rfl ?k16y ?k16r
  case k16y=>(intro w hSw;(try dsimp only at hSw);go_simp;try with_reducible rfl)
  try simp only[Act.put,List.getElem_toArray,List.getElem_cons_zero,List.getElem_cons_succ,List.setIfInBounds_toArray,List.set_cons_zero,List.set_cons_succ]
  refine wpAnyL_tk 6 ?k17v rfl ?k17y ?k17r
  case k17y=>(intro w hSw;(try dsimp only at hSw);go_simp;try with_reducible rfl)
  try simp only[Act.put,List.getElem_toArray,List.getElem_cons_zero,List.getElem_cons_succ,List.setIfInBounds_toArray,List.set_cons_zero,List.set_cons_succ]
  refine wpAnyL_tk 7 ?k18v rfl ?k18y ?k18r
  case k18y=>(intro w hSw;(try dsimp only at hSw);go_simp;try with_reducible rfl)
  try simp only[Act.put,List.getElem_toArray,List.getElem_cons_zero,List.getElem_cons_succ,List.setIfInBounds_toArray,List.set_cons_zero,List.set_cons_succ]
  refine wpAnyL_tk 8 ?k19v rfl ?k19y ?k19r
  case k19y=>(intro w hSw;(try dsimp only at hSw);go_simp;try with_reducible rfl)
  try simp only[Act.put,List.getElem_toArray,List.getElem_cons_zero,List.getElem_cons_succ,List.setIfInBounds_toArray,List.set_cons_zero,List.set_cons_succ]
  refine wpAnyL_tk 9 ?k20v rfl ?k20y ?k20r
  case k20y=>(intro w hSw;(try dsimp only at hSw);go_simp;try with_reducible rfl)
  try simp only[Act.put,List.getElem_toArray,List.getElem_cons_zero,List.getElem_cons_succ,List.setIfInBounds_toArray,List.set_cons_zero,List.set_cons_succ]
  refine wpAnyL_tk 10 ?k21v rfl ?k21y ?k21r
  case k21y=>(intro w hSw;(try dsimp only at hSw);go_simp;try with_reducible rfl)
  try simp only[Act.put,List.getElem_toArray,List.getElem_cons_zero,List.getElem_cons_succ,List.setIfInBounds_toArray,List.set_cons_zero,List.set_cons_succ]
  refine wpAnyL_call (i:=11) rfl (by kernel_rfl) (fun KK hK=>?_)
  go_simp
  refine(wrong_any t _ own procs dmax 0 (p:Int) (L p) ((te:Int)-(p:Int)-1) depth _ (T1.out.below (Below.refl _ _).drew).C (by omega) (by omega)).mono ?_
  rintro e u2⟨rfl,hb⟩
  have b2:Below u1.heap.size u1 u2:=(Below.refl u1.heap.size u1).drew.trans hb
  clear hb
  obtain⟨wi,hwi⟩:∃x,wrongI (L p) own procs dmax ((te:Int)-(p:Int)-1) depth=x:=⟨_,rfl⟩
  rw[hwi]
  have HWI:Hid (wrongI (L p) own procs dmax ((te:Int)-(p:Int)-1) depth=wi):=hwi
  clear hwi
  go_wp2_with fail
  refine hK.out _ _ b2 (fun hHeld2=>?_)
  clear hK KK
  try simp only[Act.put,List.getElem_toArray,List.getElem_cons_zero,List.getElem_cons_succ,List.setIfInBounds_toArray,List.set_cons_zero,List.set_cons_succ]
  refine wpAnyL_tkT 12 ?k22v rfl ?k22y ?k22r
  case k22y=>(intro w hSw;(try dsimp only at hSw);go_simp;try with_reducible rfl)
  try simp only[Act.put,List.getElem_toArray,List.getElem_cons_zero,List.getElem_cons_succ,List.setIfInBounds_toArray,List.set_cons_zero,List.set_cons_succ]
  refine wpAnyL_tk 13 ?k23v rfl ?k23y ?k23r
  case k23y=>(intro w hSw;(try dsimp only at hSw);go_simp;try with_reducible rfl)
  try simp only[Act.put,List.getElem_toArray,List.getElem_cons_zero,List.getElem_cons_succ,List.setIfInBounds_toArray,List.set_cons_zero,List.set_cons_succ]
  have T2:Hid (TmP u2 t b n cap own procs dmax 0 (p:Int)):=T1.out.below b2
  have C2:Hid (Cl u2 sb [.int .i64 (L p).k,.int .i64 (L p).op,.int .i64 (L p).d,.int .i64 (L p).a,.int .i64 (L p).b,.int .i64 (L p).imm,.int .i64 (L p).h,.int .i64 (L p).cond,.int .i64 (L p).thn,.int .i64 (L p).els,.int .i64 (L p).proc]):=C1.out.below b2
  have A2:Hid (Arr u2 b (n*11) (stF L)):=A1.out.below b2 A1.out.lt
  have F2:Hid (Ft t wr u2):=F1.out.trans (Ft.of_below b2)
  clear r5 s0 s1 s2 s3 s4 s5 s6 s7 s8 s9 s10 fd fd2
  obtain⟨q0,q1,q2,q3,q4,q5⟩:=tm_cells T2.out
  have tl2:=T2.out.C.1
  have tf2:=T2.out.F
  refine wpAnyL_store rfl (by kernel_rfl) (by kernel_rfl) (fun KK hK=>?_)
  go_simp
  refine hK.out _ _ ?_
  clear hK KK q0 q1 q2 q3 q4 q5 tl tf tl2 tf2 hHeld hHeld2 b2 T1 C1 A1 F1
  obtain⟨u3,hu3,T3,F3,C3⟩:∃x,u2.setCell ⟨t,4,none⟩ (.int .i64 wi)=x/\Hid (TmP x t b n cap own procs dmax wi (p:Int))/\Hid (Ft t wr x)/\Hid (Cl x sb [.int .i64 (L p).k,.int .i64 (L p).op,.int .i64 (L p).d,.int .i64 (L p).a,.int .i64 (L p).b,.int .i64 (L p).imm,.int .i64 (L p).h,.int .i64 (L p).cond,.int .i64 (L p).thn,.int .i64 (L p).els,.int .i64 (L p).proc]):=⟨_,rfl,T2.out.setErr _,F2.out.set _ _,⟨by simpa using C2.out.1,fun i hi=>(World.cell?_setCell_far _ _ _ _ (show t≠sb by omega)).trans (C2.out.2 i hi)⟩⟩
  rw[hu3]
  clear hu3 T2 F2 C2 A2
  obtain⟨q0,q1,q2,q3,q4,q5⟩:=tm_cells T3.out
  have tl:=T3.out.C.1
  by_cases hz:wi=0
  rotate_left
  ·have e0:(wi==0)=false:=by simp[hz]
   have HZ:Hid (wi≠0):=hz
   clear hz
   go_wp2
   have R:=BInv.bad (L:=L) (m:=m) (i:=i) (te:=te) (p:=p) (depth:=depth) lt F0.out O0.out OB0.out hlt HC.out F3.out (by rw[HWI.out];exact T3.out) (by rw[HWI.out];exact HZ.out)
   go_roundw
   case rel=>exact R.1
   case measure=>rw[R.2,tmM_eq te T0.out,if_pos rfl];omega
  subst hz
  obtain⟨c0,c1,c2,c3,c4,c5,c6,c7',c8,c9,c10⟩:=st_cl C3.out
  have cz:=C3.out.1
  obtain⟨iV,gV,gV0,gV1,gV2⟩:=info_parts info_statement
  have HIV:Hid (_/\_/\_/\_):=⟨gV,gV0,gV1,gV2⟩
  clear gV gV0 gV1 gV2
  go_wp2_with fail
  clear q0 q1 q2 q3 q4 q5 c0 c1 c2 c3 c4 c5 c6 c7' c8 c9 c10 tl cz
  have hc:=HS.out p hip hlt HWI.out u3 ((F0.out.trans F3.out).arr HA.out hbt) T3.out
  refine hc.mono ?_
  clear hc
  rintro e u4⟨ty,av,rfl,hf4,ht4,hn4⟩
  have F4:Hid (Ft t u3 u4):=hf4
  have T4:Hid (TmP u4 t b n cap own procs dmax (stR L own procs dmax p depth).1 (stR L own procs dmax p depth).2):=ht4
  have N4:Hid ((stR L own procs dmax p depth).1=0->NodeN L m u4 (fun q=>u3.heap.size<=q) (.iface ty av) p):=hn4
  have O4:Hid (u4.ownsRow 0 89 1 (.slice ao7 k7 c7) xs.length xs):=row_ft O0.out (F3.out.trans F4.out) (fun e=>by have:=OB0.out t e;omega)
  clear hf4 ht4 hn4
  go_wp2_with(first|(at_builtin;refine wpList_append_own_at _ rfl _ _ 62 rfl 0 89 iV .nilIface 1 16 Try.underlying62 HIV.out.1 HIV.out.2.1 HIV.out.2.2.1 HIV.out.2.2.2 rfl (by decide) (.slice ao7 k7 c7) xs.length xs rfl (row_belowU O4.out ((Below.refl _ _).alloc (Nat.le_refl _) _)) ⟨u4.heap.size,0,none⟩ 1 1 [.iface ty av] rfl rfl (cell_one_new _ _ _) ?c2 ?c3 ?c4 ?c5 ?_)|go_in)
  case c2=>intro x hx;simp at hx;subst hx;rfl
  case c3=>unfold maxLen;omega
  case c4=>omega
  case c5=>exact Nat.zero_le _
  intro v' w1 hown hgrow _ hat
  have R:=BInv.more (L:=L) (m:=m) (i:=i) (te:=te) (p:=p) (depth:=depth) lt F0.out O0.out OB0.out hip hlt HC.out HTP.out HLN.out hxp HN.out F3.out F4.out T4.out N4.out HWI.out hown hgrow hat
  have HR:Hid _:=R
  clear hown hgrow hat R
  go_wp2
  go_roundw
  case rel=>exact HR.out.1
  case measure=>have:=HR.out.2;rw[tmM_eq te T0.out,if_pos rfl];omega
theorem st_one{s:SV}{procs:Int}(h:stOK s procs=true):s.k=1∨s.k=2∨s.k=3∨s.k=4:=by
 unfold stOK at h;by_cases a:s.k=1
 ·exact .inl a
 by_cases b:s.k=2
 ·exact .inr (.inl b)
 by_cases c:s.k=3
 ·exact .inr (.inr (.inl c))
 by_cases d:s.k=4
 ·exact .inr (.inr (.inr d))
 rw[if_neg a,if_neg b,if_neg c,if_neg d]at h;cases h
theorem st_flat{s:SV}{procs:Int}(h:stOK s procs=true)(hk:s.k=1∨s.k=4):s.thn=0/\s.els=0:=by
 unfold stOK at h;rcases hk with k|k
 ·rw[if_pos k]at h;simp at h;omega
 ·rw[if_neg (by omega),if_neg (by omega),if_neg (by omega),if_pos k]at h;simp at h;omega
theorem st_loop{s:SV}{procs:Int}(h:stOK s procs=true)(hk:s.k=3):s.els=0:=by
 unfold stOK at h;rw[if_neg (by omega),if_neg (by omega),if_pos hk]at h;simp at h;omega
theorem blockOf_any(L:Nat->SV)(t b n cap:Nat)(own procs dmax:Int)(hbt:b≠t)(ln:n<=1048576):∀(m i te:Nat)(depth:Int),te-i<=m->i<=te->te<=n->0<=depth->depth+(m:Int)<=1099511627776->BlockC L t b n cap own procs dmax (m+1) i te depth:=by
 intro m;induction m with
 |zero=>
  intro i te depth hm hit htn d0 d1;exact blockOf_go L t b n cap own procs dmax 0 i te depth hbt ln hit htn (fun p h1 h2=>by omega)
 |succ m ih=>
  intro i te depth hm hit htn d0 d1;refine blockOf_go L t b n cap own procs dmax (m+1) i te depth hbt ln hit htn (fun p h1 h2 hw=>?_);obtain⟨hok,w1,w2,_,_⟩:=wrong_zero hw;obtain⟨tp,ep⟩:=st_pos hok;rcases st_one hok with k|k|k|k
  ·obtain⟨z1,z2⟩:=st_flat hok (.inl k)
   intro w hA hT;refine(statementOf_14 L t b n cap own procs dmax (m+1) p depth w (by omega) hT (.inl k)).mono ?_;rintro e w'⟨ty,a,rfl,f,T,N⟩;have hs:=stR_flat (own:=own) (procs:=procs) (dmax:=dmax) (depth:=depth) z1 z2;exact⟨ty,a,rfl,f,by rw[hs];exact T,fun _=>N⟩
  ·exact statementOf_2 L t b n cap own procs dmax (m+1) p depth (by omega) d0 (by omega) hbt k tp ep (ih _ _ _ (by omega) (by omega) (by omega) (by omega) (by omega)) (ih _ _ _ (by omega) (by omega) (by omega) (by omega) (by omega))
  ·exact statementOf_3 L t b n cap own procs dmax (m+1) p depth (by omega) d0 (by omega) hbt k tp (st_loop hok k) (ih _ _ _ (by omega) (by omega) (by omega) (by omega) (by omega))
  ·obtain⟨z1,z2⟩:=st_flat hok (.inr k)
   intro w hA hT;refine(statementOf_14 L t b n cap own procs dmax (m+1) p depth w (by omega) hT (.inr k)).mono ?_;rintro e w'⟨ty,a,rfl,f,T,N⟩;have hs:=stR_flat (own:=own) (procs:=procs) (dmax:=dmax) (depth:=depth) z1 z2;exact⟨ty,a,rfl,f,by rw[hs];exact T,fun _=>N⟩
def pz(Pv:Nat->PV)(np:Nat):Nat->Nat->Int
 |0=>fun _=>0
 |k+1=>fun i=>if i=np-1-k then min (szTo (Pv (np-1-k)).L (pz Pv np k) (Pv (np-1-k)).n) 2000 else pz Pv np k i
theorem pz_in(Pv:Nat->PV)(np k:Nat):∀i,0<=pz Pv np k i/\pz Pv np k i<=2000:=by
 induction k with
 |zero=>intro i;exact⟨Int.le_refl _,by show(0:Int)<=2000;decide⟩
 |succ k ih=>
  intro i;show 0<=(if i=np-1-k then min (szTo (Pv (np-1-k)).L (pz Pv np k) (Pv (np-1-k)).n) 2000 else pz Pv np k i)/\(if i=np-1-k then min (szTo (Pv (np-1-k)).L (pz Pv np k) (Pv (np-1-k)).n) 2000 else pz Pv np k i)<=2000;split
  ·have:=szTo_pos (L:=(Pv (np-1-k)).L) (fun i=>(ih i).1) (Pv (np-1-k)).n
   omega
  ·exact ih i
theorem szTo_cut(L:Nat->SV)(A B:Nat->Int)(ha:∀i,0<=A i)(hb:∀i,0<=B i)(h:∀i,min (A i) 2000=min (B i) 2000):∀k,min (szTo L A k) 2000=min (szTo L B k) 2000
 |0=>rfl
 |k+1=>by
  have ih:=szTo_cut L A B ha hb h k;have p1:=szTo_pos (L:=L) ha k;have p2:=szTo_pos (L:=L) hb k;have q1:=wI_pos (s:=L k) ha;have q2:=wI_pos (s:=L k) hb;have e:min (wI (L k) A) 2000=min (wI (L k) B) 2000:=by
   unfold wI;split
   ·rfl
   ·split
    ·exact h _
    ·rfl
  show min (szTo L A k+wI (L k) A) 2000=min (szTo L B k+wI (L k) B) 2000;omega
theorem cap_cut(x:Int):min (capI x) 2000=min x 2000:=by unfold capI;split<;>omega
theorem pz_zs(Pv:Nat->PV)(np:Nat):∀k i,min (pz Pv np k i) 2000=min (zs Pv np k i) 2000
 |0,_=>rfl
 |k+1,i=>by
  have ih:=pz_zs Pv np k;show min (if i=np-1-k then min (szTo (Pv (np-1-k)).L (pz Pv np k) (Pv (np-1-k)).n) 2000 else pz Pv np k i) 2000=min (if i=np-1-k then capI (szTo (Pv (np-1-k)).L (zs Pv np k) (Pv (np-1-k)).n)else zs Pv np k i) 2000;split
  ·rw[cap_cut]
   have:=szTo_cut (Pv (np-1-k)).L (pz Pv np k) (zs Pv np k) (fun i=>(pz_in Pv np k i).1) (fun i=>(zs_in Pv np k i).1) ih (Pv (np-1-k)).n;omega
  ·exact ih i
theorem Arr.setF{w:World}{b n:Nat}{Z:Nat->Int}(h:Arr w b n (zF Z))(x:Nat)(hx:x<n)(z:Int):Arr (w.setCell ⟨b,x,none⟩ (.int .i64 z)) b n (zF (fun i=>if i=x then z else Z i)):=
 (h.setU x hx _).congr (fun i _=>by
   show(if i=x then _ else _)=Value.int .i64 (if i=x then z else Z i);by_cases e:i=x
   ·rw[if_pos e,if_pos e]
   ·rw[if_neg e,if_neg e];rfl)
theorem measure_any(ub zb g np cz cs:Nat)(e1 e2 e3:Value)(Pv:Nat->PV)(tv:Nat->Value)(S:Nat->Prop)(w:World)(n1:np<=20)(hU:Cl w ub [e1,e2,e3,.slice (some ⟨g,0,none⟩) np cz,.slice (some ⟨zb,0,none⟩) np cs])(hG:At w g 0 np tv)(hZ:Arr w zb np (zF (fun _=>0)))
 (hR:∀i,i<np->RepN (Pv i).L ((Pv i).n+1) w S (tv i) 0 (Pv i).n)(hS:∀b,S b->b≠zb)(hg:g≠zb)(hu:ub≠zb)(hc:∀i,i<np->(Pv i).n<=500/\(chk (Pv i).L (i:Int) (np:Int) 16 0 (Pv i).n 0).1=0):
 Calls Try.prog 33 #[.pointer (some ⟨ub,0,none⟩)] w fun e w'=>e=.returned (.tuple #[])/\Ft zb w w'/\Arr w' zb np (zF (pz Pv np np)):=by
 have HU:Hid (Cl w ub [e1,e2,e3,.slice (some ⟨g,0,none⟩) np cz,.slice (some ⟨zb,0,none⟩) np cs]):=hU
 have HG:Hid (At w g 0 np tv):=hG
 have HZ:Hid (Arr w zb np (zF (fun _=>0))):=hZ
 have HR:Hid (∀i,i<np->RepN (Pv i).L ((Pv i).n+1) w S (tv i) 0 (Pv i).n):=hR
 have HS:Hid (∀b,S b->b≠zb):=hS
 have HC:Hid (∀i,i<np->(Pv i).n<=500/\(chk (Pv i).L (i:Int) (np:Int) 16 0 (Pv i).n 0).1=0):=hc
 have lu:=hU.1
 have lg:=hG.1
 have lz:=hZ.1
 have q3:w.cell? ⟨ub,3,none⟩=some (.slice (some ⟨g,0,none⟩) np cz):=hU.2 3 (by simp)
 clear hU hG hZ hR hS hc
 go_enter Try.func33,Try.ntmps33
 go_wp2
 clear q3
 go_loopw [2](fun iv wr=>∃k:Nat,k<=np/\iv=.int .i64 ((np:Int)-1-(k:Int))/\Ft zb w wr/\Arr wr zb np (zF (pz Pv np k)))(fun iv _=>((intOf iv)+1).toNat)
 case atStart=>exact⟨0,Nat.zero_le _,by simp,Ft.refl _ _,HZ.out⟩
 case round=>
  obtain⟨k,hk,rfl,hf,ha⟩:=hrel
  have F0:Hid (Ft zb w wr):=hf
  have A0:Hid (Arr wr zb np (zF (pz Pv np k))):=ha
  clear hf ha
  by_cases hlt:k<np
  rotate_left
  ·obtain rfl:k=np:=by omega
   have hneg:¬((k:Int)-1-(k:Int))>=0:=by omega
   go_wp2
   go_end0
   exact⟨rfl,F0.out,A0.out⟩
  obtain⟨x,hx⟩:∃x:Nat,x=np-1-k:=⟨_,rfl⟩
  have hxi:(np:Int)-1-(k:Int)=(x:Int):=by omega
  rw[hxi]
  have hxq:x<np:=by omega
  have hxq':(x:Int)<(np:Int):=by omega
  have hx0:(x:Int)>=0:=by omega
  have HXX:Hid (x=np-1-k):=hx
  have HXI:Hid ((np:Int)-1-(k:Int)=(x:Int)):=hxi
  clear hx hxi
  go_upto_region 3 with fail
  have lr:=F0.out.size
  have U0:Hid (Cl wr ub [e1,e2,e3,.slice (some ⟨g,0,none⟩) np cz,.slice (some ⟨zb,0,none⟩) np cs]):=F0.out.cl HU.out hu
  have G0:Hid (wr.cell? ⟨g,x,none⟩=some (tv x)):=(F0.out.cell lg hg).trans (by have:=HG.out.cell hxq;rwa [Nat.zero_add]at this)
  have r3:∀w',Below wr.heap.size wr w'->w'.cell? ⟨ub,3,none⟩=some (.slice (some ⟨g,0,none⟩) np cz):=fun w' h=>(U0.out.below h).2 3 (by simp)
  have r4:∀w',Below wr.heap.size wr w'->w'.cell? ⟨ub,4,none⟩=some (.slice (some ⟨zb,0,none⟩) np cs):=fun w' h=>(U0.out.below h).2 4 (by simp)
  have rg:∀w',Below wr.heap.size wr w'->w'.cell? ⟨g,x,none⟩=some (tv x):=fun w' h=>(h.cell (p:=⟨g,x,none⟩) (by simp;omega)).trans G0.out
  refine wp_region_L (T:=fun w'=>Below wr.heap.size wr w') (s:=19) (by kernel_rfl) (Below.refl _ _).drew (fun hHeld=>?_)
  refine wpAnyL_tk 0 ?k1v rfl ?k1y ?k1r
  case k1y=>(intro w hSw;(try dsimp only at hSw);go_simp;try with_reducible rfl)
  try simp only[Act.put,List.getElem_toArray,List.getElem_cons_zero,List.setIfInBounds_toArray,List.set_cons_zero,List.set_cons_succ]
  refine wpAnyL_tk 1 ?k2v rfl ?k2y ?k2r
  case k2y=>(intro w hSw;(try dsimp only at hSw);go_simp;try with_reducible rfl)
  try simp only[Act.put,List.getElem_toArray,List.getElem_cons_zero,List.getElem_cons_succ,List.setIfInBounds_toArray,List.set_cons_zero,List.set_cons_succ]
  refine wpAnyL_tk 2 ?k3v rfl ?k3y ?k3r
  case k3y=>(intro w hSw;(try dsimp only at hSw);go_simp;try with_reducible rfl)
  try simp only[Act.put,List.getElem_toArray,List.getElem_cons_zero,List.getElem_cons_succ,List.setIfInBounds_toArray,List.set_cons_zero,List.set_cons_succ]
  refine wpAnyL_tk 3 ?k4v rfl ?k4y ?k4r
  case k4y=>(intro w hSw;(try dsimp only at hSw);go_simp;try with_reducible rfl)
  try simp only[Act.put,List.getElem_toArray,List.getElem_cons_zero,List.getElem_cons_succ,List.setIfInBounds_toArray,List.set_cons_zero,List.set_cons_succ]
  refine wpAnyL_tk 4 ?k5v rfl ?k5y ?k5r
  case k5y=>(intro w hSw;(try dsimp only at hSw);go_simp;try with_reducible rfl)
  try simp only[Act.put,List.getElem_toArray,List.getElem_cons_zero,List.getElem_cons_succ,List.setIfInBounds_toArray,List.set_cons_zero,List.set_cons_succ]
  refine wpAnyL_tk 5 ?k6v rfl ?k6y ?k6r
  case k6y=>(intro w hSw;(try dsimp only at hSw);go_simp;try with_reducible rfl)
  try simp only[Act.put,List.getElem_toArray,List.getElem_cons_zero,List.getElem_cons_succ,List.setIfInBounds_toArray,List.set_cons_zero,List.set_cons_succ]
  refine wpAnyL_tk 6 ?k7v rfl ?k7y ?k7r
  case k7y=>(intro w hSw;(try dsimp only at hSw);go_simp;try with_reducible rfl)
  try simp only[Act.put,List.getElem_toArray,List.getElem_cons_zero,List.getElem_cons_succ,List.setIfInBounds_toArray,List.set_cons_zero,List.set_cons_succ]
  refine wpAnyL_tk 7 ?k8v rfl ?k8y ?k8r
  case k8y=>(intro w hSw;(try dsimp only at hSw);go_simp;try with_reducible rfl)
  try simp only[Act.put,List.getElem_toArray,List.getElem_cons_zero,List.getElem_cons_succ,List.setIfInBounds_toArray,List.set_cons_zero,List.set_cons_succ]
  refine wpAnyL_tk 8 ?k9v rfl ?k9y ?k9r
  case k9y=>(intro w hSw;(try dsimp only at hSw);go_simp;try with_reducible rfl)
  try simp only[Act.put,List.getElem_toArray,List.getElem_cons_zero,List.getElem_cons_succ,List.setIfInBounds_toArray,List.set_cons_zero,List.set_cons_succ]
  refine wpAnyL_tk 9 ?k10v rfl ?k10y ?k10r
  case k10y=>(intro w hSw;(try dsimp only at hSw);go_simp;try with_reducible rfl)
  try simp only[Act.put,List.getElem_toArray,List.getElem_cons_zero,List.getElem_cons_succ,List.setIfInBounds_toArray,List.set_cons_zero,List.set_cons_succ]
  refine wpAnyL_tk 10 ?k11v rfl ?k11y ?k11r
  case k11y=>(intro w hSw;(try dsimp only at hSw);go_simp;try with_reducible rfl)
  try simp only[Act.put,List.getElem_toArray,List.getElem_cons_zero,List.getElem_cons_succ,List.setIfInBounds_toArray,List.set_cons_zero,List.set_cons_succ]
  refine wpAnyL_tk 11 ?k12v rfl ?k12y ?k12r
  case k12y=>(intro w hSw;(try dsimp only at hSw);go_simp;try with_reducible rfl)
  try simp only[Act.put,List.getElem_toArray,List.getElem_cons_zero,List.getElem_cons_succ,List.setIfInBounds_toArray,List.set_cons_zero,List.set_cons_succ]
  refine wpAnyL_tk 12 ?k13v rfl ?k13y ?k13r
  case k13y=>(intro w hSw;(try dsimp only at hSw);go_simp;try with_reducible rfl)
  try simp only[Act.put,List.getElem_toArray,List.getElem_cons_zero,List.getElem_cons_succ,List.setIfInBounds_toArray,List.set_cons_zero,List.set_cons_succ]
  refine wpAnyL_tk 13 ?k14v rfl ?k14y ?k14r
  case k14y=>(intro w hSw;(try dsimp only at hSw);go_simp;try with_reducible rfl)
  try simp only[Act.put,List.getElem_toArray,List.getElem_cons_zero,List.getElem_cons_succ,List.setIfInBounds_toArray,List.set_cons_zero,List.set_cons_succ]
  refine wpAnyL_tk 14 ?k15v rfl ?k15y ?k15r
  case k15y=>(intro w hSw;(try dsimp only at hSw);go_simp;try with_reducible rfl)
  try simp only[Act.put,List.getElem_toArray,List.getElem_cons_zero,List.getElem_cons_succ,List.setIfInBounds_toArray,List.set_cons_zero,List.set_cons_succ]
  refine wpAnyL_tk 15 ?k16v rfl ?k16y ?k16r
  case k16y=>(intro w hSw;(try dsimp only at hSw);go_simp;try with_reducible rfl)
  try simp only[Act.put,List.getElem_toArray,List.getElem_cons_zero,List.getElem_cons_succ,List.setIfInBounds_toArray,List.set_cons_zero,List.set_cons_succ]
  refine wpAnyL_call (i:=16) rfl (by kernel_rfl) (fun KK hK=>?_)
  go_simp
  obtain⟨hn5,hch⟩:=HC.out x hxq
  refine(flatBlock_any (Pv x).L zb np cs (pz Pv np k) wr (fun i=>(pz_in Pv np k i).1) (fun i=>by have:=(pz_in Pv np k i).2;omega) A0.out.at (x:Int) 16 ((Pv x).n+1) 0 (Pv x).n 0 (tv x) S _ (Below.refl _ _).drew (((HR.out x hxq).kept (fun _ h=>h) (fun b hb hl=>F0.out.block b hl (HS.out b hb))).below (Below.refl _ _).drew) (Nat.zero_le _) (by omega) hch).mono ?_
  rintro e u1⟨rfl,hb⟩
  have b1:Below wr.heap.size wr u1:=(Below.refl wr.heap.size wr).drew.trans hb
  clear hb hch hn5
  obtain⟨z,hz⟩:∃y,szTo (Pv x).L (pz Pv np k) (Pv x).n=y:=⟨_,rfl⟩
  rw[hz,show szTo (Pv x).L (pz Pv np k) 0=0 from rfl,Int.sub_zero]
  have HZZ:Hid (szTo (Pv x).L (pz Pv np k) (Pv x).n=z):=hz
  clear hz
  go_wp2_with fail
  refine hK.out _ _ b1 (fun hHeld1=>?_)
  clear hK KK
  try simp only[Act.put,List.getElem_toArray,List.getElem_cons_zero,List.getElem_cons_succ,List.setIfInBounds_toArray,List.set_cons_zero,List.set_cons_succ]
  refine wpAnyL_tk 17 ?k17v rfl ?k17y ?k17r
  case k17y=>(intro w hSw;(try dsimp only at hSw);go_simp;try with_reducible rfl)
  try simp only[Act.put,List.getElem_toArray,List.getElem_cons_zero,List.getElem_cons_succ,List.setIfInBounds_toArray,List.set_cons_zero,List.set_cons_succ]
  refine wpAnyL_tk 18 ?k18v rfl ?k18y ?k18r
  case k18y=>(intro w hSw;(try dsimp only at hSw);go_simp;try with_reducible rfl)
  try simp only[Act.put,List.getElem_toArray,List.getElem_cons_zero,List.getElem_cons_succ,List.setIfInBounds_toArray,List.set_cons_zero,List.set_cons_succ]
  have A1:Hid (Arr u1 zb np (zF (pz Pv np k))):=A0.out.below b1 A0.out.lt
  have F1:Hid (Ft zb w u1):=F0.out.trans (Ft.of_below b1)
  clear r3 r4 rg
  have a0:u1.cell? ⟨zb,x,none⟩=some (.int .i64 (pz Pv np k x)):=A1.out.cell hxq
  have af:=A1.out.free
  have al:=A1.out.lt
  refine wpAnyL_store rfl (by kernel_rfl) (by kernel_rfl) (fun KK hK=>?_)
  go_simp
  refine hK.out _ _ ?_
  clear hK KK a0 af al hHeld hHeld1 b1 U0 G0 A0 F0
  obtain⟨y,hy⟩:∃y:Int,(if 2000<z then 2000 else z)=y:=⟨_,rfl⟩
  rw[hy]
  have HY:Hid (min z 2000=y):=(by rw[<-hy];split<;>omega:min z 2000=y)
  clear hy
  obtain⟨u2,hu2,F2,A2⟩:∃v,u1.setCell ⟨zb,x,none⟩ (.int .i64 y)=v/\Hid (Ft zb w v)/\Hid (Arr v zb np (zF (pz Pv np (k+1)))):=⟨_,rfl,F1.out.set _ _,(A1.out.setF x hxq y).congr (fun i _=>by
   show Value.int .i64 (if i=x then y else pz Pv np k i)=Value.int .i64 (if i=np-1-k then min (szTo (Pv (np-1-k)).L (pz Pv np k) (Pv (np-1-k)).n) 2000 else pz Pv np k i)
   rw[<-HXX.out,HZZ.out,HY.out])⟩
  rw[hu2]
  clear hu2 F1 A1
  go_wp2
  go_roundw
  case rel=>exact⟨k+1,by omega,by have:=HXI.out;rw[show(np:Int)-1-((k+1:Nat):Int)=(x:Int)-1 by omega],F2.out,A2.out⟩
  case measure=>simp[intOf]
end Go.Proofs.Ytplnpgohdgialaa
