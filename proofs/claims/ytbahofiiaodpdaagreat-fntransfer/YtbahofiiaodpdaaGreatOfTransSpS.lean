import Derived.Test.YtbahofiiaodpdaaGreatTransAcc
import Derived.Test.YtbahofiiaodpdaaGreatFtRes
import Derived.Test.YtbahofiiaodpdaaGreatOfTransAbsI
import Derived.Test.YtbahofiiaodpdaaGreatOfInsSame
import Derived.Test.YtbahofiiaodpdaaGreatOfAbsWalks
import Derived.Test.YtbahofiiaodpdaaGreatOfTransImplT
set_option maxHeartbeats 8000000
set_option maxRecDepth 20000
namespace Go.Proofs.YtbahofiiaodpdaaGreat
open Go.RowKit
structure StP(w u:World)(bA cA g cg:Nat)(z c op d ra rb imm h:Int)(no:Nat)(zo co:Int)(na nb:Nat)(a b:VV)(V:Nat->VV):Prop where
 bel:Below w.heap.size w u
 A:Cl u (w.heap.size+1) [.slice (some ⟨bA,0,none⟩) 8 cA,.int .i64 z,.int .i64 c]
 I:Cl u (w.heap.size+1+1) [.int .i64 op,.int .i64 d,.int .i64 ra,.int .i64 rb,.int .i64 imm,.int .i64 h]
 R:Cl u (w.heap.size+1+1+1) [.int .i64 0,.slice none 0 0,.int .i64 0,.int .i64 0]
 RF:∀i,u.frozen? ⟨w.heap.size+1+1+1,i,none⟩=false
 O:Cl u no [.slice (some ⟨g,0,none⟩) 8 cg,.int .i64 zo,.int .i64 co]
 OF:∀i,u.frozen? ⟨no,i,none⟩=false
 a:Cl u na [.int .i64 a.k,.bool a.s,.int .i64 a.m,.int .i64 a.h,.int .i64 a.lo,.int .i64 a.hi]
 b:Cl u nb [.int .i64 b.k,.bool b.s,.int .i64 b.m,.int .i64 b.h,.int .i64 b.lo,.int .i64 b.hi]
 G:Arr u g (8*6) (vF V)
 o1:w.heap.size+1+1+1<g
 o2:g<no
 o3:no<na
 o4:no<nb
theorem StP.below{w u v:World}{bA cA g cg:Nat}{z c op d ra rb imm h:Int}{no:Nat}{zo co:Int}{na nb:Nat}{a b:VV}{V:Nat->VV}(p:StP w u bA cA g cg z c op d ra rb imm h no zo co na nb a b V)(hb:Below u.heap.size u v):StP w v bA cA g cg z c op d ra rb imm h no zo co na nb a b V:=
 ⟨p.bel.trans (hb.mono p.bel.size),p.A.below hb,p.I.below hb,p.R.below hb,fun i=>(hb.frozen (p:=⟨w.heap.size+1+1+1,i,none⟩) p.R.1).trans (p.RF i),p.O.below hb,fun i=>(hb.frozen (p:=⟨no,i,none⟩) p.O.1).trans (p.OF i),p.a.below hb,p.b.below hb,p.G.below hb p.G.lt,p.o1,p.o2,p.o3,p.o4⟩
theorem StP.put{w u:World}{bA cA g cg:Nat}{z c op d ra rb imm h:Int}{no:Nat}{zo co:Int}{na nb:Nat}{a b:VV}{V:Nat->VV}(p:StP w u bA cA g cg z c op d ra rb imm h no zo co na nb a b V){di:Nat}(hd:di<8)(r:VV):StP w (put6 u g (di*6) r) bA cA g cg z c op d ra rb imm h no zo co na nb a b (updV V di r):=
 have q1:=p.o1
 have q2:=p.o2
 have q3:=p.o3
 have q4:=p.o4
 ⟨below_put6 p.bel (by omega) r,cl_put6 p.A (by omega) r,cl_put6 p.I (by omega) r,cl_put6 p.R (by omega) r,fun i=>(fz_put6 r).trans (p.RF i),cl_put6 p.O (by omega) r,fun i=>(fz_put6 r).trans (p.OF i),cl_put6 p.a (by omega) r,cl_put6 p.b (by omega) r,regs_set p.G hd r,q1,q2,q3,q4⟩
theorem cl_other{w:World}{c:Nat}{a:Addr}{vs:List Value}{v:Value}(h:Cl w c vs)(hne:a.block≠c):Cl (w.setCell a v) c vs:=
 ⟨by simpa using h.1,fun i hi=>(World.cell?_setCell_far _ _ _ _ hne).trans (h.2 i hi)⟩
theorem StP.flags{w u v:World}{bA cA g cg:Nat}{z c op d ra rb imm h:Int}{no:Nat}{zo co:Int}{na nb:Nat}{a b:VV}{V:Nat->VV}(p:StP w u bA cA g cg z c op d ra rb imm h no zo co na nb a b V){f:Int}(hv:v=(u.setCell ⟨no,1,none⟩ (.int .i64 f)).setCell ⟨no,2,none⟩ (.int .i64 f)):StP w v bA cA g cg z c op d ra rb imm h no f f na nb a b V:=by
 have q1:=p.o1;have q2:=p.o2;have q3:=p.o3;have q4:=p.o4;have c0:=p.O.2 0 (by simp);have c1:=p.O.2 1 (by simp);have c2:=p.O.2 2 (by simp);have ol:=p.O.1;have of:=p.OF;subst hv;refine⟨(p.bel.setCell (p:=⟨no,1,none⟩) (show w.heap.size<=no by omega) _).setCell (p:=⟨no,2,none⟩) (show w.heap.size<=no by omega) _,cl_other (cl_other p.A (show no≠_ by omega)) (show no≠_ by omega),cl_other (cl_other p.I (show no≠_ by omega)) (show no≠_ by omega),cl_other (cl_other p.R (show no≠_ by omega)) (show no≠_ by omega),fun i=>by simpa using p.RF i,⟨by simpa using p.O.1,?_⟩,fun i=>by simpa using p.OF i,cl_other (cl_other p.a (show no≠_ by omega)) (show no≠_ by omega),cl_other (cl_other p.b (show no≠_ by omega)) (show no≠_ by omega),(p.G.other (show no≠_ by omega) _).other (show no≠_ by omega) _,q1,q2,q3,q4⟩;simp only[List.getD_eq_getElem?_getD,List.getElem?_cons_zero,List.getElem?_cons_succ,Option.getD_some]at c0 c1 c2;intro i hi;match i,hi with
 |0,_=>simp[go_sem,c0]
 |1,_=>simp[go_sem,c1]
 |2,_=>simp[go_sem,c2]
theorem StP.aside{w u:World}{bA cA g cg:Nat}{z c op d ra rb imm h:Int}{no:Nat}{zo co:Int}{na nb:Nat}{a b:VV}{V:Nat->VV}(p:StP w u bA cA g cg z c op d ra rb imm h no zo co na nb a b V){nj:Nat}(h1:w.heap.size+1+1+1<nj)(h2:g<nj)(h3:no<nj)(h4:na<nj)(h5:nb<nj)(o:Nat)(v:Value):StP w (u.setCell ⟨nj,o,none⟩ v) bA cA g cg z c op d ra rb imm h no zo co na nb a b V:=
 ⟨p.bel.setCell (p:=⟨nj,o,none⟩) (show w.heap.size<=nj by omega) _,cl_other p.A (show nj≠_ by omega),cl_other p.I (show nj≠_ by omega),cl_other p.R (show nj≠_ by omega),fun i=>by simpa using p.RF i,cl_other p.O (show nj≠_ by omega),fun i=>by simpa using p.OF i,cl_other p.a (show nj≠_ by omega),cl_other p.b (show nj≠_ by omega),p.G.other (show nj≠_ by omega) _,p.o1,p.o2,p.o3,p.o4⟩
theorem StP.asideV{w u:World}{bA cA g cg:Nat}{z c op d ra rb imm h:Int}{no:Nat}{zo co:Int}{na nb:Nat}{a b:VV}{V:Nat->VV}(p:StP w u bA cA g cg z c op d ra rb imm h no zo co na nb a b V){nj:Nat}(h1:w.heap.size+1+1+1<nj)(h2:g<nj)(h3:no<nj)(h4:na<nj)(h5:nb<nj)(x:VV):StP w (putV u nj x) bA cA g cg z c op d ra rb imm h no zo co na nb a b V:=by
 unfold putV;exact(((((p.aside h1 h2 h3 h4 h5 _ _).aside h1 h2 h3 h4 h5 _ _).aside h1 h2 h3 h4 h5 _ _).aside h1 h2 h3 h4 h5 _ _).aside h1 h2 h3 h4 h5 _ _).aside h1 h2 h3 h4 h5 _ _
theorem clg{u:World}{q:Nat}{v0 v1 v2:Value}(h:Cl u q [v0,v1,v2]):u.cell? ⟨q,0,none⟩=some v0/\u.cell? ⟨q,1,none⟩=some v1/\u.cell? ⟨q,2,none⟩=some v2:=⟨h.2 0 (by simp),h.2 1 (by simp),h.2 2 (by simp)⟩
theorem clg4{u:World}{q:Nat}{v0 v1 v2 v3:Value}(h:Cl u q [v0,v1,v2,v3]):u.cell? ⟨q,0,none⟩=some v0/\u.cell? ⟨q,1,none⟩=some v1/\u.cell? ⟨q,2,none⟩=some v2/\u.cell? ⟨q,3,none⟩=some v3:=⟨h.2 0 (by simp),h.2 1 (by simp),h.2 2 (by simp),h.2 3 (by simp)⟩
end Go.Proofs.YtbahofiiaodpdaaGreat
namespace Go.Proofs.YtbahofiiaodpdaaGreat
open Go.RowKit Go.Deep
def GV(v:VV)(n:Int):Prop:=(v.k=0/\ -1<=v.m/\v.m<=1099511627776/\v.h=0/\v.lo=0/\v.hi=0)∨(v.k=1/\v.s=false/\v.m=0/\0<=v.h/\v.h<n/\ -1099511627776<=v.lo/\v.lo<=v.hi/\v.hi<=1099511627776)
theorem gv{v:VV}{n:Int}:goodB v n=true↔GV v n:=by
 unfold goodB GV;by_cases h:v.k=0
 ·rw[if_pos h]
  simp only[decide_eq_true_eq];constructor
  ·intro q;exact Or.inl ⟨h,q⟩
  ·rintro(q|q)
   ·exact q.2
   ·omega
 ·rw[if_neg h]
  simp only[decide_eq_true_eq];constructor
  ·intro q;exact Or.inr q
  ·rintro(q|q)
   ·omega
   ·exact q
theorem gv_num(s:Bool)(m n:Int):GV (numV s m) n:=by
 refine Or.inl ⟨rfl,?_,?_,rfl,rfl,rfl⟩<;>(show _<=_;unfold numV;dsimp only;split<;>omega)
theorem gv_join{a b:VV}{n:Int}(ha:GV a n)(hb:GV b n):GV (joinV a b) n:=by
 unfold joinV;rcases ha with ha|ha<;>rcases hb with hb|hb
 ·rw[if_neg (by omega)];split
  ·exact Or.inl ⟨rfl,by dsimp only;split<;>omega,by dsimp only;split<;>omega,rfl,rfl,rfl⟩
  ·exact Or.inl ⟨rfl,by dsimp only;omega,by dsimp only;omega,rfl,rfl,rfl⟩
 ·rw[if_neg (by omega),if_neg (by omega)];exact Or.inl ⟨rfl,by dsimp only;omega,by dsimp only;omega,rfl,rfl,rfl⟩
 ·rw[if_neg (by omega),if_neg (by omega)];exact Or.inl ⟨rfl,by dsimp only;omega,by dsimp only;omega,rfl,rfl,rfl⟩
 ·split
  ·exact Or.inr ⟨rfl,rfl,rfl,by dsimp only;omega,by dsimp only;omega,by dsimp only;split<;>omega,by dsimp only;split<;>split<;>omega,by dsimp only;split<;>omega⟩
  ·rw[if_neg (by omega)];exact Or.inl ⟨rfl,by dsimp only;omega,by dsimp only;omega,rfl,rfl,rfl⟩
theorem gv_pick{a b:VV}{n f:Int}(ha:GV a n)(hb:GV b n):GV (pickV a b f) n:=by
 unfold pickV;have hj:=gv_join ha hb;by_cases h:f=2/\(joinV a b).k=1
 ·rw[if_pos h]
  rcases gv_num true (-1) n with q|q
  ·exact Or.inl q
  ·exact absurd q.1 (by decide)
 ·rw[if_neg h]
  rcases hj with q|q
  ·exact Or.inl q
  ·refine Or.inr ⟨q.1,?_,q.2.2⟩
   show((joinV a b).s||decide (f=2))=false;rw[q.2.1,Bool.false_or];exact decide_eq_false (fun e=>h ⟨e,q.1⟩)
theorem gv_sumP{p q:VV}{n:Int}(hp:GV p n):GV (sumP p q) n:=by
 unfold sumP;split
 ·rename_i h
  rcases hp with hp|hp
  ·omega
  ·have:0<=q.m:=by
    have h2:=h.2.1;unfold maxV at h2;by_cases e:q.k=1
    ·rw[if_pos e]at h2;omega
    ·rw[if_neg e]at h2;exact h2
   exact Or.inr ⟨hp.1,hp.2.1,hp.2.2.1,hp.2.2.2.1,hp.2.2.2.2.1,hp.2.2.2.2.2.1,by show p.lo<=p.hi+q.m;omega,h.2.2.2⟩
 ·split<;>exact gv_num _ _ _
theorem gv_sum{a b:VV}{n:Int}(ha:GV a n)(hb:GV b n):GV (sumV a b) n:=by
 unfold sumV;split
 ·exact gv_sumP hb
 ·exact gv_sumP ha
theorem gv_res{op imm n:Int}{a b:VV}{s:Bool}(ha:GV a n)(hb:GV b n):GV (resV op imm a b s) n:=by
 unfold resV;by_cases h1:op=1
 ·rw[if_pos h1];exact ha
 rw[if_neg h1];by_cases h2:op=2
 ·rw[if_pos h2];exact gv_num _ _ _
 rw[if_neg h2];by_cases h3:op=3∨op=14
 ·rw[if_pos h3];exact gv_sum ha hb
 rw[if_neg h3];by_cases h10:op=10
 ·rw[if_neg (by omega),if_neg (by omega),if_neg (by omega),if_neg (by omega),if_pos h10]
  split
  ·rename_i h
   rcases ha with q|q
   ·omega
   ·exact Or.inr ⟨q.1,q.2.1,q.2.2.1,q.2.2.2.1,q.2.2.2.2.1,h.2.1,by show a.lo+imm<=a.hi+imm;omega,h.2.2⟩
  ·split<;>exact gv_num _ _ _
 ·(repeat' split)<;>first|exact gv_num _ _ _|omega
theorem abs_iff{nH nR nA:Nat}{S:Nat->HS}{V0 V:Nat->VV}{z c:Int}:absOK nH S nR V0 nA V z c=true↔sigOK nH S nR V0=true/\nA=8/\(∀i,i<8->GV (V i) nH)/\(0<=z/\z<=2)/\0<=c/\c<=2:=by
 unfold absOK goodAll flagOK;simp only[Bool.and_eq_true,decide_eq_true_eq,List.all_eq_true,List.mem_range,gv];constructor
 ·rintro⟨⟨⟨h1,h2,h3⟩,h4⟩,h5⟩
  subst h2;exact⟨h1,rfl,h3,h4,h5⟩
 ·rintro⟨h1,h2,h3,h4,h5⟩
  subst h2;exact⟨⟨⟨h1,rfl,h3⟩,h4⟩,h5⟩
theorem abs_all{nH nR:Nat}{S:Nat->HS}{V0 V V':Nat->VV}{z c z' c':Int}(h:absOK nH S nR V0 8 V z c=true)(hr:∀i,i<8->GV (V' i) nH)(hz:0<=z'/\z'<=2)(hc:0<=c'/\c'<=2):absOK nH S nR V0 8 V' z' c'=true:=
 abs_iff.2 ⟨(abs_iff.1 h).1,rfl,hr,hz,hc⟩
theorem gv_upd{V:Nat->VV}{n:Int}{d:Nat}{r:VV}(h:∀i,i<8->GV (V i) n)(hr:GV r n):∀i,i<8->GV (updV V d r i) n:=fun i hi=>by
 unfold updV;split
 ·exact hr
 ·exact h i hi
theorem vb_s{w:World}{b:Nat}{y:VV}(h:Vb w b y)(t:Bool):Vb (w.setCell ⟨b,1,none⟩ (.bool t)) b {y with s:=t}:=
 (Arr.set1 h 1 (by omega) _).congr (vC_cases rfl rfl rfl rfl rfl rfl)
theorem has_D{op:Int}(o:op<=18)(h:hasN (usesS op) 68=true):op<=16:=by
 by_cases o17:op=17
 ·subst o17;exact absurd h (by rw[show hasN (usesS 17) 68=false from by kernel_rfl];decide)
 by_cases o18:op=18
 ·subst o18;exact absurd h (by rw[show hasN (usesS 18) 68=false from by kernel_rfl];decide)
 omega
end Go.Proofs.YtbahofiiaodpdaaGreat
namespace Go.Proofs.YtbahofiiaodpdaaGreat
open Go.RowKit
def TrY(er:Int)(w:World)(e:Ending)(w':World):Prop:=∃(V':Nat->VV)(z' c':Int),TrAns w w' e er V' z' c'/\Below w.heap.size w w'
theorem trE_ok{nH nR:Nat}{S:Nat->HS}{V0 V:Nat->VV}{z c op imm:Int}{di ia ib q:Nat}(hok:absOK nH S nR V0 8 V z c=true)(hik:implIns op (di:Int) (ia:Int) (ib:Int) imm (q:Int)=true)(o28:op<=28):(trE nH S nR V0 8 V z c op (di:Int) (ia:Int) (ib:Int) imm (q:Int))=refI op (opF op z c) (secB V op z c ia ib) (accI op imm (q:Int) (opA V op ia) (opB V op ib) (V di) (S q)):=by
 unfold trE;rw[if_pos ⟨hok,hik,o28⟩];rfl
theorem imm_none{op d ra rb imm h:Int}(e:implIns op d ra rb imm h=true)(o:bitB op 8=false):imm=0:=by
 unfold implIns at e;simp only[Bool.and_eq_true]at e;have:=e.1.2;rw[o]at this;simpa[fieldB]using this
theorem has9:hasN (usesS 9) 65=true:=by kernel_rfl
theorem has9b:hasN (usesS 9) 66=true:=by kernel_rfl
theorem ref_0{op fl r:Int}{sec:Bool}(h1:¬fl=0)(h2:¬(op=9/\sec=true))(h3:op<=20):refI op fl sec r=0:=by rw[refI,if_neg h1,if_neg h2,if_neg (by omega)]
theorem ref_m{op fl r:Int}{sec:Bool}(h1:¬fl=0)(h2:¬op=9)(h3:21<=op)(h4:op<=28):refI op fl sec r=r:=by rw[refI,if_neg h1,if_neg (fun x=>h2 x.1),if_pos ⟨h3,h4⟩]
theorem opF_1{op z c:Int}(h1:op≠19)(h2:op≠15)(h3:op≠20):opF op z c=1:=by rw[opF,if_neg h1,if_neg (by omega)]
theorem specTransfer_no(bH cH nH:Nat)(S:Nat->HS)(bR cR nR:Nat)(V0:Nat->VV)(bA cA nA:Nat)(V:Nat->VV)(z c op d ra rb imm h:Int)(w:World)(lH:nH<=1048576)(lR:nR<=1048576)(lA:nA<=1048576)(h1:SigCp w bH nH S bR nR V0)(h2:Arr w bA (nA*6) (vF V))(hno:¬(absOK nH S nR V0 nA V z c=true/\implIns op d ra rb imm h=true/\op<=28)):
 Calls Tryz.prog 5 #[.agg #[.slice (some ⟨bH,0,none⟩) nH cH,.slice (some ⟨bR,0,none⟩) nR cR],.agg #[.slice (some ⟨bA,0,none⟩) nA cA,.int .i64 z,.int .i64 c],.agg #[.int .i64 op,.int .i64 d,.int .i64 ra,.int .i64 rb,.int .i64 imm,.int .i64 h]] w fun e w'=>e=.returned (.agg #[.int .i64 11,.slice none 0 0,.int .i64 0,.int .i64 0])/\Below w.heap.size w w':=by
 have H1:Hid (SigCp w bH nH S bR nR V0):=h1;have H2:Hid (Arr w bA (nA*6) (vF V)):=h2;have HN:Hid (¬(absOK nH S nR V0 nA V z c=true/\implIns op d ra rb imm h=true/\op<=28)):=hno;clear h1 h2 hno;go_enter Tryz.func5,Tryz.ntmps5;go_upto_region 1 with fail;obtain⟨u,hu,pu⟩:=it_pre w bH nH cH bR nR cR bA nA cA (z:=z) (c:=c) (op:=op) (d:=d) (ra:=ra) (rb:=rb) (imm:=imm) (h:=h);rw[hu];have P0:Hid (ItP w u bH nH cH bR nR cR bA nA cA z c op d ra rb imm h):=pu;clear hu pu;obtain⟨⟨s0,s1⟩,⟨a0,a1,a2⟩,r0,r1,r2,r3⟩:=it_cells P0.out;obtain⟨i0,i1,i2,i3,i4,i5⟩:=ins_cells P0.out.I;have rl:=P0.out.R.1;have rf:=P0.out.RF;go_wp2_with fail;refine(specAbs_any bH cH nH S bR cR nR V0 bA cA nA V z c u lH lR lA (H1.out.below P0.out.bel) (H2.out.below P0.out.bel H2.out.lt)).mono ?_;rintro e u1⟨rfl,hbe⟩;have P1:Hid (ItP w u1 bH nH cH bR nR cR bA nA cA z c op d ra rb imm h):=P0.out.below hbe;clear hbe P0;clear s0 s1 a0 a1 a2 r0 r1 r2 r3 i0 i1 i2 i3 i4 i5 rl rf;cases hok:absOK nH S nR V0 nA V z c with
 |false=>
  obtain⟨⟨s0,s1⟩,⟨a0,a1,a2⟩,r0,r1,r2,r3⟩:=it_cells P1.out;obtain⟨i0,i1,i2,i3,i4,i5⟩:=ins_cells P1.out.I;have rl:=P1.out.R.1;have rf:=P1.out.RF;go_wp2;refine bodyPost_ret (v:=.agg #[.int .i64 11,.slice none 0 0,.int .i64 0,.int .i64 0]) (by simp[results,Tryz.results5,go_sem, *]) rfl ⟨rfl,?_⟩
  (iterate 4 refine Below.setCell ?_ (show w.heap.size<=w.heap.size+1+1+1 by omega) _)
  exact P1.out.bel
 |true=>
 have HOK:Hid (absOK nH S nR V0 nA V z c=true):=hok;clear hok;obtain⟨⟨s0,s1⟩,⟨a0,a1,a2⟩,r0,r1,r2,r3⟩:=it_cells P1.out;obtain⟨i0,i1,i2,i3,i4,i5⟩:=ins_cells P1.out.I;have rl:=P1.out.R.1;have rf:=P1.out.RF;go_wp2_with fail;refine(specIns_any op d ra rb imm h _).mono ?_;rintro e u2⟨rfl,hbe⟩;have P2:Hid (ItP w u2 bH nH cH bR nR cR bA nA cA z c op d ra rb imm h):=P1.out.below hbe;clear hbe P1;clear s0 s1 a0 a1 a2 r0 r1 r2 r3 i0 i1 i2 i3 i4 i5 rl rf;cases hik:implIns op d ra rb imm h with
 |false=>
  obtain⟨⟨s0,s1⟩,⟨a0,a1,a2⟩,r0,r1,r2,r3⟩:=it_cells P2.out;obtain⟨i0,i1,i2,i3,i4,i5⟩:=ins_cells P2.out.I;have rl:=P2.out.R.1;have rf:=P2.out.RF;go_wp2;refine bodyPost_ret (v:=.agg #[.int .i64 11,.slice none 0 0,.int .i64 0,.int .i64 0]) (by simp[results,Tryz.results5,go_sem, *]) rfl ⟨rfl,?_⟩
  (iterate 4 refine Below.setCell ?_ (show w.heap.size<=w.heap.size+1+1+1 by omega) _)
  exact P2.out.bel
 |true=>
 have c28:28<op:=by have:=HN.out;rw[HOK.out,hik]at this;simp at this;omega
 clear hik;have e28:decide (op>=29)=true:=by simp;omega
 have e28':decide (29<=op)=true:=by simp;omega
 obtain⟨⟨s0,s1⟩,⟨a0,a1,a2⟩,r0,r1,r2,r3⟩:=it_cells P2.out;obtain⟨i0,i1,i2,i3,i4,i5⟩:=ins_cells P2.out.I;have rl:=P2.out.R.1;have rf:=P2.out.RF;go_wp2;refine bodyPost_ret (v:=.agg #[.int .i64 11,.slice none 0 0,.int .i64 0,.int .i64 0]) (by simp[results,Tryz.results5,go_sem, *]) rfl ⟨rfl,?_⟩
 (iterate 4 refine Below.setCell ?_ (show w.heap.size<=w.heap.size+1+1+1 by omega) _)
 exact P2.out.bel
end Go.Proofs.YtbahofiiaodpdaaGreat
