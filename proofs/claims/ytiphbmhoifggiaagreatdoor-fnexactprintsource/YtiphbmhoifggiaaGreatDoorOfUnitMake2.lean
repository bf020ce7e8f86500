import Derived.Test.YtiphbmhoifggiaaGreatDoorOfUnitWrong
set_option maxHeartbeats 8000000
set_option maxRecDepth 20000
namespace Go.Proofs.YtiphbmhoifggiaaGreatDoor
open Go.RowKit
structure Ft(t:Nat)(w w':World):Prop where
 os:w'.os=w.os
 tape:w'.tape=w.tape
 output:w'.output=w.output
 size:w.heap.size<=w'.heap.size
 block:∀k,k<w.heap.size->k≠t->w'.heap[k]?=w.heap[k]?
theorem Ft.of_below{t:Nat}{w w':World}(h:Below w.heap.size w w'):Ft t w w':=⟨h.os,h.tape,h.output,h.size,fun k hk _=>h.block k hk⟩
theorem Ft.refl(t:Nat)(w:World):Ft t w w:=⟨rfl,rfl,rfl,Nat.le_refl _,fun _ _ _=>rfl⟩
theorem Ft.trans{t:Nat}{a b c:World}(h:Ft t a b)(k:Ft t b c):Ft t a c:=
 ⟨k.os.trans h.os,k.tape.trans h.tape,k.output.trans h.output,Nat.le_trans h.size k.size,fun i hi hn=>(k.block i (Nat.lt_of_lt_of_le hi h.size) hn).trans (h.block i hi hn)⟩
theorem Ft.set{t:Nat}{a b:World}(h:Ft t a b)(o:Nat)(v:Value):Ft t a (b.setCell ⟨t,o,none⟩ v):=
 ⟨h.os,h.tape,h.output,by simpa using h.size,fun i hi hn=>(Below.heap_setCell b ⟨t,o,none⟩ v i (by simpa using hn)).trans (h.block i hi hn)⟩
theorem Ft.cell{t:Nat}{w w':World}(h:Ft t w w'){b o:Nat}(hb:b<w.heap.size)(hn:b≠t):w'.cell? ⟨b,o,none⟩=w.cell? ⟨b,o,none⟩:=World.cell?_of_block (a:=⟨b,o,none⟩) (h.block b hb hn)
theorem Ft.frozen{t:Nat}{w w':World}(h:Ft t w w'){b o:Nat}(hb:b<w.heap.size)(hn:b≠t):w'.frozen? ⟨b,o,none⟩=w.frozen? ⟨b,o,none⟩:=World.frozen?_of_block (a:=⟨b,o,none⟩) (h.block b hb hn)
theorem Ft.arr{t:Nat}{w w':World}(h:Ft t w w'){b n:Nat}{f:Nat->Value}(ha:Arr w b n f)(hn:b≠t):Arr w' b n f:=
 ⟨Nat.lt_of_lt_of_le ha.1 h.size,fun i=>(h.frozen ha.1 hn).trans (ha.2.1 i),fun i hi=>(h.cell ha.1 hn).trans (ha.2.2 i hi)⟩
theorem Ft.cl{t:Nat}{w w':World}(h:Ft t w w'){b:Nat}{vs:List Value}(ha:Cl w b vs)(hn:b≠t):Cl w' b vs:=
 ⟨Nat.lt_of_lt_of_le ha.1 h.size,fun i hi=>(h.cell ha.1 hn).trans (ha.2 i hi)⟩
structure TmP(w:World)(t b n cap:Nat)(own procs dmax err pos:Int):Prop where
 C:Cl w t [.slice (some ⟨b,0,none⟩) n cap,.int .i64 own,.int .i64 procs,.int .i64 dmax,.int .i64 err,.int .i64 pos]
 F:∀i,w.frozen? ⟨t,i,none⟩=false
theorem TmP.below{w w':World}{t b n cap:Nat}{own procs dmax err pos:Int}(h:TmP w t b n cap own procs dmax err pos)(hb:Below w.heap.size w w'):TmP w' t b n cap own procs dmax err pos:=
 ⟨h.C.below hb,fun i=>(hb.frozen (p:=⟨t,i,none⟩) h.C.1).trans (h.F i)⟩
theorem tm_cells{w:World}{t b n cap:Nat}{own procs dmax err pos:Int}(h:TmP w t b n cap own procs dmax err pos):w.cell? ⟨t,0,none⟩=some (.slice (some ⟨b,0,none⟩) n cap)/\w.cell? ⟨t,1,none⟩=some (.int .i64 own)/\w.cell? ⟨t,2,none⟩=some (.int .i64 procs)/\w.cell? ⟨t,3,none⟩=some (.int .i64 dmax)/\w.cell? ⟨t,4,none⟩=some (.int .i64 err)/\w.cell? ⟨t,5,none⟩=some (.int .i64 pos):=
 ⟨h.C.2 0 (by simp),h.C.2 1 (by simp),h.C.2 2 (by simp),h.C.2 3 (by simp),h.C.2 4 (by simp),h.C.2 5 (by simp)⟩
theorem TmP.setPos{w:World}{t b n cap:Nat}{own procs dmax err pos:Int}(h:TmP w t b n cap own procs dmax err pos)(x:Int):TmP (w.setCell ⟨t,5,none⟩ (.int .i64 x)) t b n cap own procs dmax err x:=by
 obtain⟨c0,c1,c2,c3,c4,c5⟩:=tm_cells h;refine⟨⟨by simpa using h.C.1,fun i hi=>?_⟩,fun i=>by simpa using h.F i⟩;match i,hi with
 |0,_=>simp[go_sem,c0]
 |1,_=>simp[go_sem,c1]
 |2,_=>simp[go_sem,c2]
 |3,_=>simp[go_sem,c3]
 |4,_=>simp[go_sem,c4]
 |5,_=>simp[go_sem,c5]
theorem TmP.setErr{w:World}{t b n cap:Nat}{own procs dmax err pos:Int}(h:TmP w t b n cap own procs dmax err pos)(x:Int):TmP (w.setCell ⟨t,4,none⟩ (.int .i64 x)) t b n cap own procs dmax x pos:=by
 obtain⟨c0,c1,c2,c3,c4,c5⟩:=tm_cells h;refine⟨⟨by simpa using h.C.1,fun i hi=>?_⟩,fun i=>by simpa using h.F i⟩;match i,hi with
 |0,_=>simp[go_sem,c0]
 |1,_=>simp[go_sem,c1]
 |2,_=>simp[go_sem,c2]
 |3,_=>simp[go_sem,c3]
 |4,_=>simp[go_sem,c4]
 |5,_=>simp[go_sem,c5]
def NodeN(L:Nat->SV)(m:Nat)(w:World)(S:Nat->Prop)(x:Value)(p:Nat):Prop:=
 ((L p).k=1/\x=.iface 120 (.agg #[.int .i64 (p:Int),.int .i64 (L p).op,.int .i64 (L p).d,.int .i64 (L p).a,.int .i64 (L p).b,.int .i64 (L p).imm,.int .i64 (L p).h]))∨
 ((L p).k=2/\∃v1 v2,x=.iface 123 (.agg #[.int .i64 (p:Int),.int .i64 (L p).cond,v1,v2])/\RepN L m w S v1 (p+1) (p+1+(L p).thn.toNat)/\RepN L m w S v2 (p+1+(L p).thn.toNat) (p+1+(L p).thn.toNat+(L p).els.toNat))∨
 ((L p).k=3/\∃v1,x=.iface 126 (.agg #[.int .i64 (p:Int),.int .i64 (L p).cond,v1])/\RepN L m w S v1 (p+1) (p+1+(L p).thn.toNat))∨
 ((L p).k=4/\x=.iface 128 (.agg #[.int .i64 (L p).proc]))
def BlockC(L:Nat->SV)(t b n cap:Nat)(own procs dmax:Int)(m i te:Nat)(depth:Int):Prop:=
 ∀w,Arr w b (n*11) (stF L)->TmP w t b n cap own procs dmax 0 (i:Int)->Calls Tryz.prog 49 #[.pointer (some ⟨t,0,none⟩),.int .i64 ((te:Int)-(i:Int)),.int .i64 depth] w fun e w'=>∃(ao:Option Addr)(k c:Nat),e=.returned (.slice ao k c)/\Ft t w w'/\TmP w' t b n cap own procs dmax (chk L own procs (dmax+1) i te depth).1 (if(chk L own procs (dmax+1) i te depth).1=0 then(te:Int)else(chk L own procs (dmax+1) i te depth).2)/\((chk L own procs (dmax+1) i te depth).1=0->RepN L m w' (fun q=>w.heap.size<=q) (.slice ao k c) i te)
theorem statementOf_14(L:Nat->SV)(t b n cap:Nat)(own procs dmax:Int)(m p:Nat)(depth:Int)(w:World)(p0:p<=1048576)(hT:TmP w t b n cap own procs dmax 0 (p:Int))(hk:(L p).k=1∨(L p).k=4):
 Calls Tryz.prog 73 #[.pointer (some ⟨t,0,none⟩),.agg #[.int .i64 (L p).k,.int .i64 (L p).op,.int .i64 (L p).d,.int .i64 (L p).a,.int .i64 (L p).b,.int .i64 (L p).imm,.int .i64 (L p).h,.int .i64 (L p).cond,.int .i64 (L p).thn,.int .i64 (L p).els,.int .i64 (L p).proc],.int .i64 depth] w fun e w'=>∃ty a,e=.returned (.iface ty a)/\Ft t w w'/\TmP w' t b n cap own procs dmax 0 ((p:Int)+1)/\NodeN L m w' (fun q=>w.heap.size<=q) (.iface ty a) p:=by
 have HT:Hid (TmP w t b n cap own procs dmax 0 (p:Int)):=hT;have lt:=hT.C.1;clear hT;go_enter Tryz.func73,Tryz.ntmps73;go_upto_region 1 with fail;obtain⟨u,hu,hb,hc⟩:∃x,w.alloc (.cells #[.int .i64 (L p).k,.int .i64 (L p).op,.int .i64 (L p).d,.int .i64 (L p).a,.int .i64 (L p).b,.int .i64 (L p).imm,.int .i64 (L p).h,.int .i64 (L p).cond,.int .i64 (L p).thn,.int .i64 (L p).els,.int .i64 (L p).proc] 99)=x/\Below w.heap.size w x/\Cl x w.heap.size [.int .i64 (L p).k,.int .i64 (L p).op,.int .i64 (L p).d,.int .i64 (L p).a,.int .i64 (L p).b,.int .i64 (L p).imm,.int .i64 (L p).h,.int .i64 (L p).cond,.int .i64 (L p).thn,.int .i64 (L p).els,.int .i64 (L p).proc]:=⟨_,rfl,(Below.refl _ _).alloc (Nat.le_refl _) _,Cl.new⟩
 rw[hu];have T0:Hid (TmP u t b n cap own procs dmax 0 (p:Int)):=HT.out.below hb;have C0:Hid (Cl u w.heap.size [.int .i64 (L p).k,.int .i64 (L p).op,.int .i64 (L p).d,.int .i64 (L p).a,.int .i64 (L p).b,.int .i64 (L p).imm,.int .i64 (L p).h,.int .i64 (L p).cond,.int .i64 (L p).thn,.int .i64 (L p).els,.int .i64 (L p).proc]):=hc;have F0:Hid (Ft t w u):=Ft.of_below hb;clear hu hb hc HT;obtain⟨q0,q1,q2,q3,q4,q5⟩:=tm_cells T0.out;have tf:=T0.out.F;have tl:=T0.out.C.1;go_upto_region 3 with fail;clear q0 q1 q2 q3 q4 q5 tf tl;obtain⟨u1,hu1,T1,F1,C1⟩:∃x,u.setCell ⟨t,5,none⟩ (.int .i64 ((p:Int)+1))=x/\Hid (TmP x t b n cap own procs dmax 0 ((p:Int)+1))/\Hid (Ft t w x)/\Hid (Cl x w.heap.size [.int .i64 (L p).k,.int .i64 (L p).op,.int .i64 (L p).d,.int .i64 (L p).a,.int .i64 (L p).b,.int .i64 (L p).imm,.int .i64 (L p).h,.int .i64 (L p).cond,.int .i64 (L p).thn,.int .i64 (L p).els,.int .i64 (L p).proc]):=⟨_,rfl,T0.out.setPos _,F0.out.set _ _,⟨by simpa using C0.out.1,fun i hi=>(World.cell?_setCell_far _ _ _ _ (show t≠w.heap.size by omega)).trans (C0.out.2 i hi)⟩⟩
 rw[hu1];clear hu1 T0 F0 C0;obtain⟨c0,c1,c2,c3,c4,c5,c6,c7,c8,c9,c10⟩:=st_cl C1.out;have cz:=C1.out.1;rcases hk with k1|k4
 ·have e2:((L p).k==2)=false:=by simp[k1]
  have e3:((L p).k==3)=false:=by simp[k1]
  have e4:((L p).k==4)=false:=by simp[k1]
  have K:Hid ((L p).k=1):=k1;clear k1;go_wp2;go_ret;exact⟨_,_,rfl,F1.out,T1.out,.inl ⟨K.out,rfl⟩⟩
 ·have e2:((L p).k==2)=false:=by simp[k4]
  have e3:((L p).k==3)=false:=by simp[k4]
  have e4:((L p).k==4)=true:=by simp[k4]
  have K:Hid ((L p).k=4):=k4;clear k4;go_wp2;go_ret;exact⟨_,_,rfl,F1.out,T1.out,.inr (.inr (.inr ⟨K.out,rfl⟩))⟩
theorem Ft.drew{t:Nat}{a b:World}(h:Ft t a b):Ft t a b.drew:=⟨h.os,h.tape,h.output,h.size,h.block⟩
def stR(L:Nat->SV)(own procs dmax:Int)(p:Nat)(depth:Int):Int×Int:=
 if(chk L own procs (dmax+1) (p+1) (p+1+(L p).thn.toNat) (depth+1)).1≠0 then chk L own procs (dmax+1) (p+1) (p+1+(L p).thn.toNat) (depth+1)
 else if(chk L own procs (dmax+1) (p+1+(L p).thn.toNat) (p+1+(L p).thn.toNat+(L p).els.toNat) (depth+1)).1≠0 then chk L own procs (dmax+1) (p+1+(L p).thn.toNat) (p+1+(L p).thn.toNat+(L p).els.toNat) (depth+1)
 else(0,((p+1+(L p).thn.toNat+(L p).els.toNat:Nat):Int))
def StmtC(L:Nat->SV)(t b n cap:Nat)(own procs dmax:Int)(m p:Nat)(depth:Int):Prop:=
 ∀w,Arr w b (n*11) (stF L)->TmP w t b n cap own procs dmax 0 (p:Int)->Calls Tryz.prog 73 #[.pointer (some ⟨t,0,none⟩),.agg #[.int .i64 (L p).k,.int .i64 (L p).op,.int .i64 (L p).d,.int .i64 (L p).a,.int .i64 (L p).b,.int .i64 (L p).imm,.int .i64 (L p).h,.int .i64 (L p).cond,.int .i64 (L p).thn,.int .i64 (L p).els,.int .i64 (L p).proc],.int .i64 depth] w fun e w'=>∃ty a,e=.returned (.iface ty a)/\Ft t w w'/\TmP w' t b n cap own procs dmax (stR L own procs dmax p depth).1 (stR L own procs dmax p depth).2/\((stR L own procs dmax p depth).1=0->NodeN L m w' (fun q=>w.heap.size<=q) (.iface ty a) p)
theorem blockOf_err(t b n cap:Nat)(own procs dmax err pos size depth:Int)(w:World)(hT:TmP w t b n cap own procs dmax err pos)(he:err≠0):
 Calls Tryz.prog 49 #[.pointer (some ⟨t,0,none⟩),.int .i64 size,.int .i64 depth] w fun e w'=>e=.returned (.slice none 0 0)/\w'=w:=by
 obtain⟨q0,q1,q2,q3,q4,q5⟩:=tm_cells hT;have tl:=hT.C.1;have e0:(err==0)=false:=by simp[he]
 have HE:Hid (err≠0):=he;clear hT he;go_enter Tryz.func49,Tryz.ntmps49;go_wp2;go_loopw [7](fun mv wr=>mv=.slice none 0 0/\wr=w)(fun _ _=>0)
 case atStart=>exact⟨rfl,rfl⟩
 case round=>
  obtain⟨rfl,rfl⟩:=hrel;go_wp2;go_ret;exact⟨rfl,rfl⟩
theorem statementOf_3(L:Nat->SV)(t b n cap:Nat)(own procs dmax:Int)(m p:Nat)(depth:Int)(p0:p<=1048576)(d0:0<=depth)(d1:depth<=1099511627776)(hbt:b≠t)(hk:(L p).k=3)(th:0<=(L p).thn)(el:(L p).els=0)
 (h1:BlockC L t b n cap own procs dmax m (p+1) (p+1+(L p).thn.toNat) (depth+1)):StmtC L t b n cap own procs dmax m p depth:=by
 intro w hA hT
 have H1:Hid _:=h1
 clear h1
 have e2:((L p).k==2)=false:=by simp[hk]
 have e3:((L p).k==3)=true:=by simp[hk]
 have K:Hid ((L p).k=3):=hk
 have EL:Hid ((L p).els=0):=el
 clear hk el
 have HT:Hid (TmP w t b n cap own procs dmax 0 (p:Int)):=hT
 have HA:Hid (Arr w b (n*11) (stF L)):=hA
 have lt:=hT.C.1
 have lb:=hA.1
 clear hT hA
 go_enter Tryz.func73,Tryz.ntmps73
 go_upto_region 1 with fail
 obtain⟨u,hu,hb,hc⟩:∃x,w.alloc (.cells #[.int .i64 (L p).k,.int .i64 (L p).op,.int .i64 (L p).d,.int .i64 (L p).a,.int .i64 (L p).b,.int .i64 (L p).imm,.int .i64 (L p).h,.int .i64 (L p).cond,.int .i64 (L p).thn,.int .i64 (L p).els,.int .i64 (L p).proc] 99)=x/\Below w.heap.size w x/\Cl x w.heap.size [.int .i64 (L p).k,.int .i64 (L p).op,.int .i64 (L p).d,.int .i64 (L p).a,.int .i64 (L p).b,.int .i64 (L p).imm,.int .i64 (L p).h,.int .i64 (L p).cond,.int .i64 (L p).thn,.int .i64 (L p).els,.int .i64 (L p).proc]:=⟨_,rfl,(Below.refl _ _).alloc (Nat.le_refl _) _,Cl.new⟩
 rw[hu]
 have T0:Hid (TmP u t b n cap own procs dmax 0 (p:Int)):=HT.out.below hb
 have C0:Hid (Cl u w.heap.size [.int .i64 (L p).k,.int .i64 (L p).op,.int .i64 (L p).d,.int .i64 (L p).a,.int .i64 (L p).b,.int .i64 (L p).imm,.int .i64 (L p).h,.int .i64 (L p).cond,.int .i64 (L p).thn,.int .i64 (L p).els,.int .i64 (L p).proc]):=hc
 have F0:Hid (Ft t w u):=Ft.of_below hb
 clear hu hb hc HT
 obtain⟨q0,q1,q2,q3,q4,q5⟩:=tm_cells T0.out
 have tf:=T0.out.F
 have tl:=T0.out.C.1
 go_upto_region 3 with fail
 clear q0 q1 q2 q3 q4 q5 tf tl
 obtain⟨u1,hu1,T1,F1,C1⟩:∃x,u.setCell ⟨t,5,none⟩ (.int .i64 ((p:Int)+1))=x/\Hid (TmP x t b n cap own procs dmax 0 ((p:Int)+1))/\Hid (Ft t w x)/\Hid (Cl x w.heap.size [.int .i64 (L p).k,.int .i64 (L p).op,.int .i64 (L p).d,.int .i64 (L p).a,.int .i64 (L p).b,.int .i64 (L p).imm,.int .i64 (L p).h,.int .i64 (L p).cond,.int .i64 (L p).thn,.int .i64 (L p).els,.int .i64 (L p).proc]):=⟨_,rfl,T0.out.setPos _,F0.out.set _ _,⟨by simpa using C0.out.1,fun i hi=>(World.cell?_setCell_far _ _ _ _ (show t≠w.heap.size by omega)).trans (C0.out.2 i hi)⟩⟩
 rw[hu1]
 clear hu1 T0 F0 C0
 have A1:Hid (Arr u1 b (n*11) (stF L)):=F1.out.arr HA.out hbt
 have nt:w.heap.size≠t:=by omega
 clear HA
 obtain⟨c0,c1,c2,c3,c4,c5,c6,c7,c8,c9,c10⟩:=st_cl C1.out
 have cz:=C1.out.1
 go_upto_region 8 with fail
 clear c0 c1 c2 c3 c4 c5 c6 c7 c8 c9 c10
 have fd:IntKind.i64.wrap (depth+1)=depth+1:=by rw[IntKind.wrap_i64];omega
 have r7:∀w',Ft t u1 w'->w'.cell? ⟨w.heap.size,7,none⟩=some (.int .i64 (L p).cond):=fun w' h=>(h.cl C1.out nt).2 7 (by simp)
 have r8:∀w',Ft t u1 w'->w'.cell? ⟨w.heap.size,8,none⟩=some (.int .i64 (L p).thn):=fun w' h=>(h.cl C1.out nt).2 8 (by simp)
 refine wp_region_held_drew (S:=fun w'=>Ft t u1 w') (by kernel_rfl) (Ft.refl _ _).drew (fun hd0=>?_)
 have TD:Hid (TmP u1.drew t b n cap own procs dmax 0 ((p:Int)+1)):=T1.out.below (Below.refl _ _).drew
 have AD:Hid (Arr u1.drew b (n*11) (stF L)):=hd0.arr A1.out hbt
 generalize u1.drew=v0 at hd0 TD AD⊢
 refine wpAnyH_tk 0 ?k1v rfl ?k1y ?k1r
 case k1y=>(intro w hSw;(try dsimp only at hSw);go_simp;try with_reducible rfl)
 try simp only[Act.put,List.getElem_toArray,List.getElem_cons_zero,List.setIfInBounds_toArray,List.set_cons_zero,List.set_cons_succ]
 refine wpAnyH_tk 1 ?k2v rfl ?k2y ?k2r
 case k2y=>(intro w hSw;(try dsimp only at hSw);go_simp;try with_reducible rfl)
 try simp only[Act.put,List.getElem_toArray,List.getElem_cons_zero,List.getElem_cons_succ,List.setIfInBounds_toArray,List.set_cons_zero,List.set_cons_succ]
 refine wpAnyH_tk 2 ?k3v rfl ?k3y ?k3r
 case k3y=>(intro w hSw;(try dsimp only at hSw);go_simp;try with_reducible rfl)
 try simp only[Act.put,List.getElem_toArray,List.getElem_cons_zero,List.getElem_cons_succ,List.setIfInBounds_toArray,List.set_cons_zero,List.set_cons_succ]
 refine wpAnyH_tk 3 ?k4v rfl ?k4y ?k4r
 case k4y=>(intro w hSw;(try dsimp only at hSw);go_simp;try with_reducible rfl)
 try simp only[Act.put,List.getElem_toArray,List.getElem_cons_zero,List.getElem_cons_succ,List.setIfInBounds_toArray,List.set_cons_zero,List.set_cons_succ]
 refine wpAnyH_tk 4 ?k5v rfl ?k5y ?k5r
 case k5y=>(intro w hSw;(try dsimp only at hSw);go_simp;try with_reducible rfl)
 try simp only[Act.put,List.getElem_toArray,List.getElem_cons_zero,List.getElem_cons_succ,List.setIfInBounds_toArray,List.set_cons_zero,List.set_cons_succ]
 refine wpAnyH_tk 5 ?k6v rfl ?k6y ?k6r
 case k6y=>(intro w hSw;(try dsimp only at hSw);go_simp;try with_reducible rfl)
 try simp only[Act.put,List.getElem_toArray,List.getElem_cons_zero,List.getElem_cons_succ,List.setIfInBounds_toArray,List.set_cons_zero,List.set_cons_succ]
 refine wpAnyH_tk 6 ?k7v rfl ?k7y ?k7r
 case k7y=>(intro w hSw;(try dsimp only at hSw);go_simp;try with_reducible rfl)
 try simp only[Act.put,List.getElem_toArray,List.getElem_cons_zero,List.getElem_cons_succ,List.setIfInBounds_toArray,List.set_cons_zero,List.set_cons_succ]
 refine wpAnyH_tk 7 ?k8v rfl ?k8y ?k8r
 case k8y=>(intro w hSw;(try dsimp only at hSw);go_simp;try with_reducible rfl)
 try simp only[Act.put,List.getElem_toArray,List.getElem_cons_zero,List.getElem_cons_succ,List.setIfInBounds_toArray,List.set_cons_zero,List.set_cons_succ]
 refine wpAnyH_ready (rs:=[8]) (by kernel_rfl) (by simp) ?_
 refine AllReadyH.cons rfl (fun KK hK=>?_) AllReadyH.nil
 go_simp
 have hc:=H1.out v0 AD.out (by rw[show((p+1:Nat):Int)=(p:Int)+1 by omega];exact TD.out)
 rw[show(((p+1+(L p).thn.toNat:Nat):Int)-((p+1:Nat):Int))=(L p).thn by omega]at hc
 refine hc.mono ?_
 rintro e w1⟨ao1,k1,cap1,rfl,hf1,ht1,hr1⟩
 have hd1:Ft t u1 w1:=hd0.trans hf1
 have TT:Hid (TmP w1 t b n cap own procs dmax (chk L own procs (dmax+1) (p+1) (p+1+(L p).thn.toNat) (depth+1)).1 (if(chk L own procs (dmax+1) (p+1) (p+1+(L p).thn.toNat) (depth+1)).1=0 then((p+1+(L p).thn.toNat:Nat):Int)else(chk L own procs (dmax+1) (p+1) (p+1+(L p).thn.toNat) (depth+1)).2)):=ht1
 have RR:Hid ((chk L own procs (dmax+1) (p+1) (p+1+(L p).thn.toNat) (depth+1)).1=0->RepN L m w1 (fun q=>v0.heap.size<=q) (.slice ao1 k1 cap1) (p+1) (p+1+(L p).thn.toNat)):=hr1
 have SZ:Hid (w.heap.size<=v0.heap.size):=Nat.le_trans F1.out.size hd0.size
 clear hc hf1 ht1 hr1
 go_wp2_with fail
 refine hK.out _ _ hd1 (fun hHeld=>?_)
 clear hK KK
 try simp only[Act.put,List.getElem_toArray,List.getElem_cons_zero,List.getElem_cons_succ,List.setIfInBounds_toArray,List.set_cons_zero,List.set_cons_succ]
 refine wpAnyH_tk 9 ?k9v rfl ?k9y ?k9r
 case k9y=>(intro w hSw;(try dsimp only at hSw);go_simp;try with_reducible rfl)
 try simp only[Act.put,List.getElem_toArray,List.getElem_cons_zero,List.getElem_cons_succ,List.setIfInBounds_toArray,List.set_cons_zero,List.set_cons_succ]
 refine wpAnyH_tk 10 ?k10v rfl ?k10y ?k10r
 case k10y=>(intro w hSw;(try dsimp only at hSw);go_simp;try with_reducible rfl)
 try simp only[Act.put,List.getElem_toArray,List.getElem_cons_zero,List.getElem_cons_succ,List.setIfInBounds_toArray,List.set_cons_zero,List.set_cons_succ]
 refine wpAnyH_tk 11 ?k11v rfl ?k11y ?k11r
 case k11y=>(intro w hSw;(try dsimp only at hSw);go_simp;try with_reducible rfl)
 try simp only[Act.put,List.getElem_toArray,List.getElem_cons_zero,List.getElem_cons_succ,List.setIfInBounds_toArray,List.set_cons_zero,List.set_cons_succ]
 refine wpAnyH_done (by kernel_rfl) ?_ _
 clear r7 r8 hHeld
 go_wp2
 go_ret
 have hs2:stR L own procs dmax p depth=if(chk L own procs (dmax+1) (p+1) (p+1+(L p).thn.toNat) (depth+1)).1≠0 then chk L own procs (dmax+1) (p+1) (p+1+(L p).thn.toNat) (depth+1)else(0,((p+1+(L p).thn.toNat:Nat):Int)):=by
  unfold stR
  rw[EL.out,chk_end (by simp:¬p+1+(L p).thn.toNat<p+1+(L p).thn.toNat+(0:Int).toNat)]
  simp
 rw[hs2]
 refine⟨_,_,rfl,F1.out.trans hd1,?_,fun h=>?_⟩
 ·by_cases hz:(chk L own procs (dmax+1) (p+1) (p+1+(L p).thn.toNat) (depth+1)).1=0
  ·have:=TT.out
   rw[if_pos hz,hz]at this
   rw[if_neg (by simpa using hz)]
   exact this
  ·have:=TT.out
   rw[if_neg hz]at this
   rw[if_pos hz]
   exact this
 ·refine .inr (.inr (.inl ⟨K.out,_,rfl,(RR.out ?_).kept (fun q h=>Nat.le_trans SZ.out h) (fun _ _ _=>rfl)⟩))
  by_cases hz:(chk L own procs (dmax+1) (p+1) (p+1+(L p).thn.toNat) (depth+1)).1=0
  ·exact hz
  ·rw[if_pos hz]at h;exact h
theorem statementOf_2(L:Nat->SV)(t b n cap:Nat)(own procs dmax:Int)(m p:Nat)(depth:Int)(p0:p<=1048576)(d0:0<=depth)(d1:depth<=1099511627776)(hbt:b≠t)(hk:(L p).k=2)(th:0<=(L p).thn)(el:0<=(L p).els)
 (h1:BlockC L t b n cap own procs dmax m (p+1) (p+1+(L p).thn.toNat) (depth+1))(h2:BlockC L t b n cap own procs dmax m (p+1+(L p).thn.toNat) (p+1+(L p).thn.toNat+(L p).els.toNat) (depth+1)):StmtC L t b n cap own procs dmax m p depth:=by
 intro w hA hT;have H1:Hid _:=h1;have H2:Hid _:=h2;clear h1 h2;have e2:((L p).k==2)=true:=by simp[hk]
 have K:Hid ((L p).k=2):=hk;clear hk;have HT:Hid (TmP w t b n cap own procs dmax 0 (p:Int)):=hT;have HA:Hid (Arr w b (n*11) (stF L)):=hA;have lt:=hT.C.1;have lb:=hA.1;clear hT hA;go_enter Tryz.func73,Tryz.ntmps73;go_upto_region 1 with fail;obtain⟨u,hu,hb,hc⟩:∃x,w.alloc (.cells #[.int .i64 (L p).k,.int .i64 (L p).op,.int .i64 (L p).d,.int .i64 (L p).a,.int .i64 (L p).b,.int .i64 (L p).imm,.int .i64 (L p).h,.int .i64 (L p).cond,.int .i64 (L p).thn,.int .i64 (L p).els,.int .i64 (L p).proc] 99)=x/\Below w.heap.size w x/\Cl x w.heap.size [.int .i64 (L p).k,.int .i64 (L p).op,.int .i64 (L p).d,.int .i64 (L p).a,.int .i64 (L p).b,.int .i64 (L p).imm,.int .i64 (L p).h,.int .i64 (L p).cond,.int .i64 (L p).thn,.int .i64 (L p).els,.int .i64 (L p).proc]:=⟨_,rfl,(Below.refl _ _).alloc (Nat.le_refl _) _,Cl.new⟩
 rw[hu];have T0:Hid (TmP u t b n cap own procs dmax 0 (p:Int)):=HT.out.below hb;have C0:Hid (Cl u w.heap.size [.int .i64 (L p).k,.int .i64 (L p).op,.int .i64 (L p).d,.int .i64 (L p).a,.int .i64 (L p).b,.int .i64 (L p).imm,.int .i64 (L p).h,.int .i64 (L p).cond,.int .i64 (L p).thn,.int .i64 (L p).els,.int .i64 (L p).proc]):=hc;have F0:Hid (Ft t w u):=Ft.of_below hb;clear hu hb hc HT;obtain⟨q0,q1,q2,q3,q4,q5⟩:=tm_cells T0.out;have tf:=T0.out.F;have tl:=T0.out.C.1;go_upto_region 3 with fail;clear q0 q1 q2 q3 q4 q5 tf tl;obtain⟨u1,hu1,T1,F1,C1⟩:∃x,u.setCell ⟨t,5,none⟩ (.int .i64 ((p:Int)+1))=x/\Hid (TmP x t b n cap own procs dmax 0 ((p:Int)+1))/\Hid (Ft t w x)/\Hid (Cl x w.heap.size [.int .i64 (L p).k,.int .i64 (L p).op,.int .i64 (L p).d,.int .i64 (L p).a,.int .i64 (L p).b,.int .i64 (L p).imm,.int .i64 (L p).h,.int .i64 (L p).cond,.int .i64 (L p).thn,.int .i64 (L p).els,.int .i64 (L p).proc]):=⟨_,rfl,T0.out.setPos _,F0.out.set _ _,⟨by simpa using C0.out.1,fun i hi=>(World.cell?_setCell_far _ _ _ _ (show t≠w.heap.size by omega)).trans (C0.out.2 i hi)⟩⟩
 rw[hu1];clear hu1 T0 F0 C0;have A1:Hid (Arr u1 b (n*11) (stF L)):=F1.out.arr HA.out hbt;have nt:w.heap.size≠t:=by omega
 clear HA;obtain⟨c0,c1,c2,c3,c4,c5,c6,c7,c8,c9,c10⟩:=st_cl C1.out;have cz:=C1.out.1;go_wp2_with fail;clear c0 c1 c2 c3 c4 c5 c6 c7 c8 c9 c10;have hc:=H1.out u1 A1.out (by rw[show((p+1:Nat):Int)=(p:Int)+1 by omega];exact T1.out);rw[show(((p+1+(L p).thn.toNat:Nat):Int)-((p+1:Nat):Int))=(L p).thn by omega]at hc;refine hc.mono ?_;rintro e w1⟨ao1,k1,cap1,rfl,hf1,ht1,hr1⟩;obtain⟨x1,hx1⟩:∃x,chk L own procs (dmax+1) (p+1) (p+1+(L p).thn.toNat) (depth+1)=x:=⟨_,rfl⟩
 rw[hx1]at ht1 hr1;have X1:Hid (chk L own procs (dmax+1) (p+1) (p+1+(L p).thn.toNat) (depth+1)=x1):=hx1;have FA:Hid (Ft t w w1):=F1.out.trans hf1;have TA:Hid (TmP w1 t b n cap own procs dmax x1.1 (if x1.1=0 then((p+1+(L p).thn.toNat:Nat):Int)else x1.2)):=ht1;have RA:Hid (x1.1=0->RepN L m w1 (fun q=>u1.heap.size<=q) (.slice ao1 k1 cap1) (p+1) (p+1+(L p).thn.toNat)):=hr1;have AA:Hid (Arr w1 b (n*11) (stF L)):=hf1.arr A1.out hbt;have CA:Hid (Cl w1 w.heap.size [.int .i64 (L p).k,.int .i64 (L p).op,.int .i64 (L p).d,.int .i64 (L p).a,.int .i64 (L p).b,.int .i64 (L p).imm,.int .i64 (L p).h,.int .i64 (L p).cond,.int .i64 (L p).thn,.int .i64 (L p).els,.int .i64 (L p).proc]):=hf1.cl C1.out nt;have SZ:Hid (w.heap.size<=u1.heap.size):=F1.out.size;have SZ1:Hid (u1.heap.size<=w1.heap.size):=hf1.size;clear hc hf1 ht1 hr1 hx1 A1 F1 C1 T1 cz;have cz:=CA.out.1;go_upto_region 6 with fail;have fd:IntKind.i64.wrap (depth+1)=depth+1:=by rw[IntKind.wrap_i64];omega
 have r7:∀w',Ft t w1 w'->w'.cell? ⟨w.heap.size,7,none⟩=some (.int .i64 (L p).cond):=fun w' h=>(h.cl CA.out nt).2 7 (by simp)
 have r9:∀w',Ft t w1 w'->w'.cell? ⟨w.heap.size,9,none⟩=some (.int .i64 (L p).els):=fun w' h=>(h.cl CA.out nt).2 9 (by simp)
 refine wp_region_held_drew (S:=fun w'=>Ft t w1 w') (by kernel_rfl) (Ft.refl _ _).drew (fun hd0=>?_);have TD:Hid (TmP w1.drew t b n cap own procs dmax x1.1 (if x1.1=0 then((p+1+(L p).thn.toNat:Nat):Int)else x1.2)):=TA.out.below (Below.refl _ _).drew;have AD:Hid (Arr w1.drew b (n*11) (stF L)):=hd0.arr AA.out hbt;generalize w1.drew=v0 at hd0 TD AD⊢
 refine wpAnyH_tk 0 ?k12v rfl ?k12y ?k12r
 case k12y=>(intro w hSw;(try dsimp only at hSw);go_simp;try with_reducible rfl)
 try simp only[Act.put,List.getElem_toArray,List.getElem_cons_zero,List.setIfInBounds_toArray,List.set_cons_zero,List.set_cons_succ]
 refine wpAnyH_tk 1 ?k13v rfl ?k13y ?k13r
 case k13y=>(intro w hSw;(try dsimp only at hSw);go_simp;try with_reducible rfl)
 try simp only[Act.put,List.getElem_toArray,List.getElem_cons_zero,List.getElem_cons_succ,List.setIfInBounds_toArray,List.set_cons_zero,List.set_cons_succ]
 refine wpAnyH_tk 2 ?k14v rfl ?k14y ?k14r
 case k14y=>(intro w hSw;(try dsimp only at hSw);go_simp;try with_reducible rfl)
 try simp only[Act.put,List.getElem_toArray,List.getElem_cons_zero,List.getElem_cons_succ,List.setIfInBounds_toArray,List.set_cons_zero,List.set_cons_succ]
 refine wpAnyH_tk 3 ?k15v rfl ?k15y ?k15r
 case k15y=>(intro w hSw;(try dsimp only at hSw);go_simp;try with_reducible rfl)
 try simp only[Act.put,List.getElem_toArray,List.getElem_cons_zero,List.getElem_cons_succ,List.setIfInBounds_toArray,List.set_cons_zero,List.set_cons_succ]
 refine wpAnyH_tk 4 ?k16v rfl ?k16y ?k16r
 case k16y=>(intro w hSw;(try dsimp only at hSw);go_simp;try with_reducible rfl)
 try simp only[Act.put,List.getElem_toArray,List.getElem_cons_zero,List.getElem_cons_succ,List.setIfInBounds_toArray,List.set_cons_zero,List.set_cons_succ]
 refine wpAnyH_tk 5 ?k17v rfl ?k17y ?k17r
 case k17y=>(intro w hSw;(try dsimp only at hSw);go_simp;try with_reducible rfl)
 try simp only[Act.put,List.getElem_toArray,List.getElem_cons_zero,List.getElem_cons_succ,List.setIfInBounds_toArray,List.set_cons_zero,List.set_cons_succ]
 refine wpAnyH_tk 6 ?k18v rfl ?k18y ?k18r
 case k18y=>(intro w hSw;(try dsimp only at hSw);go_simp;try with_reducible rfl)
 try simp only[Act.put,List.getElem_toArray,List.getElem_cons_zero,List.getElem_cons_succ,List.setIfInBounds_toArray,List.set_cons_zero,List.set_cons_succ]
 refine wpAnyH_tk 7 ?k19v rfl ?k19y ?k19r
 case k19y=>(intro w hSw;(try dsimp only at hSw);go_simp;try with_reducible rfl)
 try simp only[Act.put,List.getElem_toArray,List.getElem_cons_zero,List.getElem_cons_succ,List.setIfInBounds_toArray,List.set_cons_zero,List.set_cons_succ]
 refine wpAnyH_tk 8 ?k20v rfl ?k20y ?k20r
 case k20y=>(intro w hSw;(try dsimp only at hSw);go_simp;try with_reducible rfl)
 try simp only[Act.put,List.getElem_toArray,List.getElem_cons_zero,List.getElem_cons_succ,List.setIfInBounds_toArray,List.set_cons_zero,List.set_cons_succ]
 refine wpAnyH_ready (rs:=[9]) (by kernel_rfl) (by simp) ?_
 refine AllReadyH.cons rfl (fun KK hK=>?_) AllReadyH.nil
 go_simp
 obtain⟨x2,hx2⟩:∃x,chk L own procs (dmax+1) (p+1+(L p).thn.toNat) (p+1+(L p).thn.toNat+(L p).els.toNat) (depth+1)=x:=⟨_,rfl⟩
 have X2:Hid (chk L own procs (dmax+1) (p+1+(L p).thn.toNat) (p+1+(L p).thn.toNat+(L p).els.toNat) (depth+1)=x2):=hx2
 have hcall:Calls Tryz.prog 49 #[.pointer (some ⟨t,0,none⟩),.int .i64 (L p).els,.int .i64 (depth+1)] v0 fun e w'=>∃(ao2:Option Addr)(k2 cap2:Nat),e=.returned (.slice ao2 k2 cap2)/\Ft t v0 w'/\TmP w' t b n cap own procs dmax (stR L own procs dmax p depth).1 (stR L own procs dmax p depth).2/\((stR L own procs dmax p depth).1=0->x1.1=0/\RepN L m w' (fun q=>v0.heap.size<=q) (.slice ao2 k2 cap2) (p+1+(L p).thn.toNat) (p+1+(L p).thn.toNat+(L p).els.toNat)):=by
  have hs:stR L own procs dmax p depth=if x1.1≠0 then x1 else if x2.1≠0 then x2 else(0,((p+1+(L p).thn.toNat+(L p).els.toNat:Nat):Int)):=by unfold stR;rw[X1.out,hx2]
  rw[hs]
  by_cases hz:x1.1=0
  ·have ht:=TD.out
   rw[if_pos hz,hz]at ht
   have hc:=H2.out v0 AD.out ht
   rw[show(((p+1+(L p).thn.toNat+(L p).els.toNat:Nat):Int)-((p+1+(L p).thn.toNat:Nat):Int))=(L p).els by omega,hx2]at hc
   refine hc.mono ?_
   rintro e w2⟨ao2,k2,cap2,rfl,hf2,ht2,hr2⟩
   rw[if_neg (by simpa using hz)]
   refine⟨_,_,_,rfl,hf2,?_,fun h=>⟨hz,hr2 ?_⟩⟩
   ·by_cases hy:x2.1=0
    ·rw[if_pos hy,hy]at ht2
     rw[if_neg (by simpa using hy)]
     exact ht2
    ·rw[if_neg hy]at ht2
     rw[if_pos hy]
     exact ht2
   ·by_cases hy:x2.1=0
    ·exact hy
    ·rw[if_pos hy]at h;exact h
  ·have ht:=TD.out
   rw[if_neg hz]at ht
   refine(blockOf_err t b n cap own procs dmax _ _ _ _ v0 ht hz).mono ?_
   rintro e w2⟨rfl,rfl⟩
   rw[if_pos hz]
   exact⟨_,_,_,rfl,Ft.refl _ _,ht,fun h=>absurd h hz⟩
 refine hcall.mono ?_
 clear hcall hx2
 rintro e w2⟨ao2,k2,cap2,rfl,hf2,ht2,hr2⟩
 have hd1:Ft t w1 w2:=hd0.trans hf2
 have TT:Hid (TmP w2 t b n cap own procs dmax (stR L own procs dmax p depth).1 (stR L own procs dmax p depth).2):=ht2
 have RR:Hid ((stR L own procs dmax p depth).1=0->x1.1=0/\RepN L m w2 (fun q=>v0.heap.size<=q) (.slice ao2 k2 cap2) (p+1+(L p).thn.toNat) (p+1+(L p).thn.toNat+(L p).els.toNat)):=hr2
 have FZ:Hid (w1.heap.size<=v0.heap.size):=hd0.size
 clear hf2 ht2 hr2
 go_wp2_with fail
 refine hK.out _ _ hd1 (fun hHeld=>?_)
 clear hK KK
 try simp only[Act.put,List.getElem_toArray,List.getElem_cons_zero,List.getElem_cons_succ,List.setIfInBounds_toArray,List.set_cons_zero,List.set_cons_succ]
 refine wpAnyH_tk 10 ?k21v rfl ?k21y ?k21r
 case k21y=>(intro w hSw;(try dsimp only at hSw);go_simp;try with_reducible rfl)
 try simp only[Act.put,List.getElem_toArray,List.getElem_cons_zero,List.getElem_cons_succ,List.setIfInBounds_toArray,List.set_cons_zero,List.set_cons_succ]
 refine wpAnyH_tk 11 ?k22v rfl ?k22y ?k22r
 case k22y=>(intro w hSw;(try dsimp only at hSw);go_simp;try with_reducible rfl)
 try simp only[Act.put,List.getElem_toArray,List.getElem_cons_zero,List.getElem_cons_succ,List.setIfInBounds_toArray,List.set_cons_zero,List.set_cons_succ]
 refine wpAnyH_tk 12 ?k23v rfl ?k23y ?k23r
 case k23y=>(intro w hSw;(try dsimp only at hSw);go_simp;try with_reducible rfl)
 try simp only[Act.put,List.getElem_toArray,List.getElem_cons_zero,List.getElem_cons_succ,List.setIfInBounds_toArray,List.set_cons_zero,List.set_cons_succ]
 refine wpAnyH_done (by kernel_rfl) ?_ _
 clear r7 r9 hHeld
 go_wp2
 go_ret
 refine⟨_,_,rfl,FA.out.trans hd1,TT.out,fun h=>?_⟩
 obtain⟨hz,hr⟩:=RR.out h
 have z1:=SZ.out
 have z2:=SZ1.out
 have z3:=FZ.out
 refine .inr (.inl ⟨K.out,_,_,rfl,(RA.out hz).kept (fun q h=>Nat.le_trans z1 h) (fun q h hq=>hd1.block q hq (by omega)),hr.kept (fun q h=>by omega) (fun _ _ _=>rfl)⟩)
end Go.Proofs.YtiphbmhoifggiaaGreatDoor
