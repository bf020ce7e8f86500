import Derived.Test.YtpbceodheeepoaaGreatRunWalk
import Derived.Test.YtpbceodheeepoaaGreatOfOpenMachR
import Derived.Test.YtpbceodheeepoaaGreatOfOpenIns
import Derived.OpenShut
import Derived.ChangeOld
import Derived.Below
set_option maxRecDepth 100000
namespace Go.Proofs.YtpbceodheeepoaaGreat
open Go.ChangeShapes Go.WideShapes Go.ChangeAt Go.RowKit Go.Deep
theorem run_own:ownKnob Tryz.prog.godebug=none:=by kernel_rfl
theorem run_laidOut:laidOutB Tryz.prog=true:=by kernel_rfl
theorem lawRun_great(ao:Option Addr)(len cap:Nat)(L:Array Value)(hL:L.size=9)(h:1048576<len)(hm:len<=maxLen)(steps:Int)(w:World):
 Calls Tryz.prog 5 #[.slice ao len cap,.agg L,.int .i64 steps] w fun e w'=>e=.returned (.bool true)/\Below w.heap.size w w':=by
 unfold maxLen at hm;match L,hL with
 |⟨[c0,c1,c2,c3,c4,c5,c6,c7,c8]⟩,_=>
  go_enter Tryz.func5,Tryz.ntmps5;go_wp2_with fail;refine(szInsS_no _ _ _ _ _ (by omega) (by omega) hm).mono ?_;rintro e w1⟨rfl,hw1⟩;rw[hw1];go_wp2;go_ret;exact⟨rfl,(Below.refl _ _).alloc (Nat.le_refl _) _⟩
theorem lawRun_lifted(os:Os)(started:os.Started)(H:Type)(enc:TypeId×Value->H):
 ReturnsInHanded {} Tryz.checked os 5 .any (Rows.fnExactRunMachSpec.pre6 enc Tryz.prog Tryz.f5 Rows.fnExactRunMachRow.domain false) (Rows.fnExactRunMachSpec.post enc Tryz.prog Tryz.f5 false true false false):=by
 refine returnsInHanded_of_change (C:=Tryz.checked) run_own started (by kernel_rfl) Tryz.func5
  (ChangeSpec.witness6 (enc:=enc) (C:=Tryz.checked) false ⟨#[],#[.slice none 0 0,.agg #[.slice none 0 0,.bool false,.bool false,.bool false,.bool false,.slice none 0 0,.int .i64 0,.int .i64 0,.slice none 0 0],.int .i64 0],[]⟩ 8 (by kernel_rfl) (by kernel_rfl) (by kernel_rfl) (by kernel_rfl)) ?_
 intro W base args ds gs before hval0 hW _ _;have hval:∀(j:Nat)t v,Tryz.f5.params[j]?=some t->args[j]?=some v->Value.okWide Tryz.prog W .any base t v:=hval0;have hW':=hW;obtain⟨p,q,hA0,hV,rfl,_,_⟩:=hW;have hA:DataW.TrodAll enc Tryz.prog W 0 (fun _=>true) true Tryz.f5.params.toList args.toList ds p:=hA0;rw[Tryz.params5]at hA hval;obtain⟨v0,v1,v2,d0,d1,d2,p0,p1,p2,rfl,rfl,rfl,h0,h1,h2⟩:=trodAll_three hA;obtain⟨rfl,rfl⟩:=trodVars_none hV;obtain⟨ao,len,cap,rfl⟩:=okWide_slice Tryz.underlying38 (hval 0 38 v0 rfl rfl);obtain⟨cs,rfl,_⟩:=okWide_struct Tryz.underlying42 (hval 1 42 v1 rfl rfl);obtain⟨steps,rfl⟩:∃n,v2=.int .i64 n:=okWide_int Tryz.underlying2 (hval 2 2 v2 rfl rfl);have k0:=h0;have k1:=h1;have k2:=h2;have lt0:∀x∈p0,x.block<W.heap.size:=by obtain⟨m,hm⟩:=k0;exact DataW.trod_lt m _ _ _ hm
 have lt1:∀x∈p1,x.block<W.heap.size:=by obtain⟨m,hm⟩:=k1;exact DataW.trod_lt m _ _ _ hm
 have lt2:∀x∈p2,x.block<W.heap.size:=by obtain⟨m,hm⟩:=k2;exact DataW.trod_lt m _ _ _ hm
 obtain⟨fuel0,hf0⟩:=h0;obtain⟨fuel1,hf1⟩:=h1;obtain⟨hm,F,hinP⟩:=open_insS (by simpa[Value.cells]using hf0);obtain⟨aoR,nR,capR,R,z,c,hz,hc,aoH,nH,capH,Hp,pc,st,aoO,nO,capO,K,V,hcs,mR,mH,mD,mO,hr,hin⟩:=open_machR hf1;have:cs=#[.slice aoR nR capR,.bool z,.bool c,.bool hz,.bool hc,.slice aoH nH capH,.int .i64 pc,.int .i64 st,.slice aoO nO capO]:=by
  cases cs;simpa[Value.cells]using hcs
 subst this;clear hA0 hval0;have fin:∀(e:Ending)(W':World),e=.returned (.bool true)/\Below W.heap.size W W'->∃v,e=.returned v/\Rows.fnExactRunMachSpec.post enc Tryz.prog Tryz.f5 false true false false W #[.slice ao len cap,.agg #[.slice aoR nR capR,.bool z,.bool c,.bool hz,.bool hc,.slice aoH nH capH,.int .i64 pc,.int .i64 st,.slice aoO nO capO],.int .i64 steps] v W':=by
  rintro e W'⟨he,bel⟩;subst he;exact⟨_,rfl,_,_,_,[],_,[],hW',trodAll_mk1 (shut_bool Tryz.underlying4 _),trodAll_mk3 (Below.trod run_laidOut (by kernel_rfl) (of_decide_eq_true (by kernel_rfl)) k0 bel lt0) (Below.trod run_laidOut (by kernel_rfl) (of_decide_eq_true (by kernel_rfl)) k1 bel lt1) (Below.trod run_laidOut (by kernel_rfl) (of_decide_eq_true (by kernel_rfl)) k2 bel lt2),rfl,bel.frame _,fun h=>by cases h⟩
 by_cases hl:len<=1048576
 ·exact(lawRun_walk ao len cap F aoR nR capR R z c hz hc aoH nH capH Hp pc st aoO nO capO K V steps W hl hinP mR mH mD mO hr hin).mono fin
 ·exact(lawRun_great ao len cap _ rfl (by omega) hm steps W).mono fin
theorem runMach_holds:Rows.FnExactRunMachSaid:=
 OpenClaim.holds_of_wide 5 Tryz.f5 rfl rfl rfl rfl rfl rfl rfl ⟨rfl,rfl,rfl,rfl,rfl⟩ rfl rfl rfl rfl rfl (by kernel_rfl) Tryz.func5 (by kernel_rfl)
  (of_decide_eq_true (by kernel_rfl)) (by unfold Func.isWrapper;first|(rw[if_pos (by decide+kernel)];kernel_rfl)|(rw[if_neg (by decide+kernel)];exact⟨rfl,rfl⟩))
  (fun os started H enc _=>lawRun_lifted os started H enc)
end Go.Proofs.YtpbceodheeepoaaGreat
