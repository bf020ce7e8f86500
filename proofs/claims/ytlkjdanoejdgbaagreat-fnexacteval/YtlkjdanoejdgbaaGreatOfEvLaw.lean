import Derived.Test.YtlkjdanoejdgbaaGreatOfCoreF
import Derived.Test.YtlkjdanoejdgbaaGreatOfEvMk
import Derived.OpenShut
import Derived.Test.YtlkjdanoejdgbaaGreatEvWalk
import Derived.Test.YtlkjdanoejdgbaaGreatOfOpenMachR
import Derived.ChangeOld
import Derived.Below
set_option maxRecDepth 100000
namespace Go.Proofs.YtlkjdanoejdgbaaGreat
open Go.ChangeShapes Go.WideShapes Go.ChangeAt Go.RowKit Go.Deep
theorem cellsU_i64:Tryz.prog.cellsOf 2=1:=by kernel_rfl
theorem cellsU_ins:Tryz.prog.cellsOf 63=6:=by kernel_rfl
theorem cellsU_stmt:Tryz.prog.cellsOf 65=11:=by kernel_rfl
section
variable{H:Type}{enc:TypeId×Value->H}{w:World}{base:Nat}{spare:Nat->Bool}{held:Bool}
theorem insU_cells{fuel:Nat}{cs:List Value}{x:DataW H×List MemPlace}(h:DataW.trod enc Tryz.prog w base spare held fuel 63 cs=some x):
 ∃op d a b imm hh:Int,cs=[.int .i64 op,.int .i64 d,.int .i64 a,.int .i64 b,.int .i64 imm,.int .i64 hh]:=by
 obtain⟨xs,n,_,_,hl,hlen,hf⟩:=DataW.trod_struct Tryz.underlying63 h;rw[cellsU_ins]at hl;match cs,hl with
 |[c0,c1,c2,c3,c4,c5],_=>
  match xs,hlen with
  |[y0,y1,y2,y3,y4,y5],_=>
   have h0:=hf 0 _ rfl;have h1:=hf 1 _ rfl;have h2:=hf 2 _ rfl;have h3:=hf 3 _ rfl;have h4:=hf 4 _ rfl;have h5:=hf 5 _ rfl;simp[cellsU_i64]at h0 h1 h2 h3 h4 h5;obtain⟨n0,e0,_⟩:=DataW.trod_int Tryz.underlying2 h0;obtain⟨n1,e1,_⟩:=DataW.trod_int Tryz.underlying2 h1;obtain⟨n2,e2,_⟩:=DataW.trod_int Tryz.underlying2 h2;obtain⟨n3,e3,_⟩:=DataW.trod_int Tryz.underlying2 h3;obtain⟨n4,e4,_⟩:=DataW.trod_int Tryz.underlying2 h4;obtain⟨n5,e5,_⟩:=DataW.trod_int Tryz.underlying2 h5;simp at e0 e1 e2 e3 e4 e5;subst e0 e1 e2 e3 e4 e5;exact⟨_,_,_,_,_,_,rfl⟩
theorem stmtU_cells{fuel:Nat}{cs:List Value}{x:DataW H×List MemPlace}(h:DataW.trod enc Tryz.prog w base spare held fuel 65 cs=some x):
 ∃s:SV,cs=[.int .i64 s.k,.int .i64 s.op,.int .i64 s.d,.int .i64 s.a,.int .i64 s.b,.int .i64 s.imm,.int .i64 s.h,.int .i64 s.cond,.int .i64 s.thn,.int .i64 s.els,.int .i64 s.proc]:=by
 obtain⟨xs,n,_,_,hl,hlen,hf⟩:=DataW.trod_struct Tryz.underlying65 h;rw[cellsU_stmt]at hl;match cs,hl with
 |[c0,c1,c2,c3,c4,c5,c6,c7,c8,c9,c10],_=>
  match xs,hlen with
  |[y0,y1,y2,y3,y4,y5],_=>
   have h0:=hf 0 _ rfl;have h1:=hf 1 _ rfl;have h2:=hf 2 _ rfl;have h3:=hf 3 _ rfl;have h4:=hf 4 _ rfl;have h5:=hf 5 _ rfl;simp[cellsU_i64,cellsU_ins]at h0 h1 h2 h3 h4 h5;obtain⟨n0,e0,_⟩:=DataW.trod_int Tryz.underlying2 h0;obtain⟨op,d,a,b,imm,hh,e1⟩:=insU_cells h1;obtain⟨n2,e2,_⟩:=DataW.trod_int Tryz.underlying2 h2;obtain⟨n3,e3,_⟩:=DataW.trod_int Tryz.underlying2 h3;obtain⟨n4,e4,_⟩:=DataW.trod_int Tryz.underlying2 h4;obtain⟨n5,e5,_⟩:=DataW.trod_int Tryz.underlying2 h5;simp at e0 e1 e2 e3 e4 e5;obtain⟨f0,f1,f2,f3,f4,f5⟩:=e1;subst e0 f0 f1 f2 f3 f4 f5 e2 e3 e4 e5;exact⟨⟨_,_,_,_,_,_,_,_,_,_,_⟩,rfl⟩
theorem open_stmtS{fuel:Nat}{ao:Option Addr}{len cap:Nat}{x:DataW H×List MemPlace}(h:DataW.trod enc Tryz.prog w base spare held fuel 22 [.slice ao len cap]=some x):len<=maxLen/\∃L,InRow w ao (len*11) (stF L):=by
 obtain⟨hm,f,hin,hel⟩:=open_row Tryz.underlying22 cellsU_stmt (by omega) h;refine⟨hm,?_⟩;have:Inhabited SV:=⟨⟨0,0,0,0,0,0,0,0,0,0,0⟩⟩
 obtain⟨L,hG⟩:=choose_lt (n:=len) (p:=fun i(s:SV)=>∀j,j<11->f (i*11+j)=stC s j) (fun i hi=>by
  obtain⟨n,y,hy⟩:=hel i hi;obtain⟨s,e⟩:=stmtU_cells hy;refine⟨s,fun j hj=>?_⟩;simp[List.range,List.range.loop]at e;obtain⟨e0,e1,e2,e3,e4,e5,e6,e7,e8,e9,e10⟩:=e;match j,hj with
  |0,_=>exact e0
  |1,_=>exact e1
  |2,_=>exact e2
  |3,_=>exact e3
  |4,_=>exact e4
  |5,_=>exact e5
  |6,_=>exact e6
  |7,_=>exact e7
  |8,_=>exact e8
  |9,_=>exact e9
  |10,_=>exact e10)
 refine⟨L,hin.congr fun p hp=>?_⟩;have h1:p/11<len:=by omega
 have:=hG (p/11) h1 (p%11) (by omega);rw[show p/11*11+p%11=p by omega]at this;rw[this];rfl
end
theorem ev_own:ownKnob Tryz.prog.godebug=none:=by kernel_rfl
theorem ev_laidOut:laidOutB Tryz.prog=true:=by kernel_rfl
theorem lawEval_great(ao:Option Addr)(len cap:Nat)(L:Array Value)(hL:L.size=9)(h:1048576<len)(hm:len<=maxLen)(steps:Int)(w:World):
 Calls Tryz.prog 3 #[.slice ao len cap,.agg L,.int .i64 steps] w fun e w'=>e=.returned (.bool true)/\Below w.heap.size w w':=by
 unfold maxLen at hm;match L,hL with
 |⟨[c0,c1,c2,c3,c4,c5,c6,c7,c8]⟩,_=>
  go_enter Tryz.func3,Tryz.ntmps3;go_wp2_with fail;refine(szSt_no _ _ _ _ _ (by omega) (by omega) (by omega)).mono ?_;rintro e w1⟨rfl,hw1⟩;rw[hw1];go_wp2;go_ret;exact⟨rfl,(Below.refl _ _).alloc (Nat.le_refl _) _⟩
theorem lawEval_lifted(os:Os)(started:os.Started)(H:Type)(enc:TypeId×Value->H):
 ReturnsInHanded {} Tryz.checked os 3 .any (Rows.fnExactEvalSpec.pre6 enc Tryz.prog Tryz.f3 Rows.fnExactEvalRow.domain false) (Rows.fnExactEvalSpec.post enc Tryz.prog Tryz.f3 false true false false):=by
 refine returnsInHanded_of_change (C:=Tryz.checked) ev_own started (by kernel_rfl) Tryz.func3
  (ChangeSpec.witness6 (enc:=enc) (C:=Tryz.checked) false ⟨#[],#[.slice none 0 0,.agg #[.slice none 0 0,.bool false,.bool false,.bool false,.bool false,.slice none 0 0,.int .i64 0,.int .i64 0,.slice none 0 0],.int .i64 0],[]⟩ 8 (by kernel_rfl) (by kernel_rfl) (by kernel_rfl) (by kernel_rfl)) ?_
 intro W base args ds gs before hval0 hW _ _;have hval:∀(j:Nat)t v,Tryz.f3.params[j]?=some t->args[j]?=some v->Value.okWide Tryz.prog W .any base t v:=hval0;have hW':=hW;obtain⟨p,q,hA0,hV,rfl,_,_⟩:=hW;have hA:DataW.TrodAll enc Tryz.prog W 0 (fun _=>true) true Tryz.f3.params.toList args.toList ds p:=hA0;rw[Tryz.params3]at hA hval;obtain⟨v0,v1,v2,d0,d1,d2,p0,p1,p2,rfl,rfl,rfl,h0,h1,h2⟩:=trodAll_three hA;obtain⟨rfl,rfl⟩:=trodVars_none hV;obtain⟨ao,len,cap,rfl⟩:=okWide_slice Tryz.underlying22 (hval 0 22 v0 rfl rfl);obtain⟨cs,rfl,_⟩:=okWide_struct Tryz.underlying27 (hval 1 27 v1 rfl rfl);obtain⟨steps,rfl⟩:∃n,v2=.int .i64 n:=okWide_int Tryz.underlying2 (hval 2 2 v2 rfl rfl);have k0:=h0;have k1:=h1;have k2:=h2;have lt0:∀x∈p0,x.block<W.heap.size:=by obtain⟨m,hm⟩:=k0;exact DataW.trod_lt m _ _ _ hm
 have lt1:∀x∈p1,x.block<W.heap.size:=by obtain⟨m,hm⟩:=k1;exact DataW.trod_lt m _ _ _ hm
 have lt2:∀x∈p2,x.block<W.heap.size:=by obtain⟨m,hm⟩:=k2;exact DataW.trod_lt m _ _ _ hm
 obtain⟨fuel0,hf0⟩:=h0;obtain⟨fuel1,hf1⟩:=h1;obtain⟨hm,F,hinP⟩:=open_stmtS (by simpa[Value.cells]using hf0);obtain⟨aoR,nR,capR,R,z,c,hz,hc,aoH,nH,capH,Hp,pc,st,aoO,nO,capO,K,V,hcs,mR,mH,mD,mO,hr,hin⟩:=open_machR hf1;have:cs=#[.slice aoR nR capR,.bool z,.bool c,.bool hz,.bool hc,.slice aoH nH capH,.int .i64 pc,.int .i64 st,.slice aoO nO capO]:=by
  cases cs;simpa[Value.cells]using hcs
 subst this;clear hA0 hval0;have fin:∀(e:Ending)(W':World),e=.returned (.bool true)/\Below W.heap.size W W'->∃v,e=.returned v/\Rows.fnExactEvalSpec.post enc Tryz.prog Tryz.f3 false true false false W #[.slice ao len cap,.agg #[.slice aoR nR capR,.bool z,.bool c,.bool hz,.bool hc,.slice aoH nH capH,.int .i64 pc,.int .i64 st,.slice aoO nO capO],.int .i64 steps] v W':=by
  rintro e W'⟨he,bel⟩;subst he;exact⟨_,rfl,_,_,_,[],_,[],hW',trodAll_mk1 (shut_bool Tryz.underlying4 _),trodAll_mk3 (Below.trod ev_laidOut (by kernel_rfl) (of_decide_eq_true (by kernel_rfl)) k0 bel lt0) (Below.trod ev_laidOut (by kernel_rfl) (of_decide_eq_true (by kernel_rfl)) k1 bel lt1) (Below.trod ev_laidOut (by kernel_rfl) (of_decide_eq_true (by kernel_rfl)) k2 bel lt2),rfl,bel.frame _,fun h=>by cases h⟩
 by_cases hl:len<=1048576
 ·exact(lawEval_walk ao len cap F aoR nR capR R z c hz hc aoH nH capH Hp pc st aoO nO capO K V steps W hl hinP mR mH mD mO hr hin).mono fin
 ·exact(lawEval_great ao len cap _ rfl (by omega) hm steps W).mono fin
theorem eval_holds:Rows.FnExactEvalSaid:=
 OpenClaim.holds_of_wide 3 Tryz.f3 rfl rfl rfl rfl rfl rfl rfl ⟨rfl,rfl,rfl,rfl,rfl⟩ rfl rfl rfl rfl rfl (by kernel_rfl) Tryz.func3 (by kernel_rfl)
  (of_decide_eq_true (by kernel_rfl)) (by unfold Func.isWrapper;first|(rw[if_pos (by decide+kernel)];kernel_rfl)|(rw[if_neg (by decide+kernel)];exact⟨rfl,rfl⟩))
  (fun os started H enc _=>lawEval_lifted os started H enc)
end Go.Proofs.YtlkjdanoejdgbaaGreat
