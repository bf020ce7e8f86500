import Derived.Test.YtpbceodheeepoaaGreatStepWalk
import Derived.Test.YtpbceodheeepoaaGreatOfOpenMachR
import Derived.Test.YtpbceodheeepoaaGreatOfOpenIns
import Derived.OpenShut
import Derived.ChangeOld
import Derived.Below
set_option maxRecDepth 100000
namespace Go.Proofs.YtpbceodheeepoaaGreat
open Go.ChangeShapes Go.WideShapes Go.ChangeAt Go.RowKit Go.Deep
theorem step_own:ownKnob Tryz.prog.godebug=none:=by kernel_rfl
theorem step_laidOut:laidOutB Tryz.prog=true:=by kernel_rfl
theorem lawStep_great(ao:Option Addr)(len cap:Nat)(L:Array Value)(hL:L.size=9)(h:1048576<len)(hm:len<=maxLen)(w:World):
 Calls Tryz.prog 4 #[.slice ao len cap,.agg L] w fun e w'=>e=.returned (.bool true)/\Below w.heap.size w w':=by
 unfold maxLen at hm;match L,hL with
 |⟨[c0,c1,c2,c3,c4,c5,c6,c7,c8]⟩,_=>
  go_enter Tryz.func4,Tryz.ntmps4;go_wp2_with fail;refine(szInsS_no _ _ _ _ _ (by omega) (by omega) hm).mono ?_;rintro e w1⟨rfl,hw1⟩;rw[hw1];go_wp2;go_ret;exact⟨rfl,(Below.refl _ _).alloc (Nat.le_refl _) _⟩
theorem lawStep_lifted(os:Os)(started:os.Started)(H:Type)(enc:TypeId×Value->H):
 ReturnsInHanded {} Tryz.checked os 4 .any (Rows.fnExactStepMachSpec.pre6 enc Tryz.prog Tryz.f4 Rows.fnExactStepMachRow.domain false) (Rows.fnExactStepMachSpec.post enc Tryz.prog Tryz.f4 false true false false):=by
 refine returnsInHanded_of_change (C:=Tryz.checked) step_own started (by kernel_rfl) Tryz.func4
  (ChangeSpec.witness6 (enc:=enc) (C:=Tryz.checked) false ⟨#[],#[.slice none 0 0,.agg #[.slice none 0 0,.bool false,.bool false,.bool false,.bool false,.slice none 0 0,.int .i64 0,.int .i64 0,.slice none 0 0]],[]⟩ 8 (by kernel_rfl) (by kernel_rfl) (by kernel_rfl) (by kernel_rfl)) ?_
 intro W base args ds gs before hval0 hW _ _;have hval:∀(j:Nat)t v,Tryz.f4.params[j]?=some t->args[j]?=some v->Value.okWide Tryz.prog W .any base t v:=hval0;have hW':=hW;obtain⟨p,q,hA0,hV,rfl,_,_⟩:=hW;have hA:DataW.TrodAll enc Tryz.prog W 0 (fun _=>true) true Tryz.f4.params.toList args.toList ds p:=hA0;rw[Tryz.params4]at hA hval;obtain⟨v0,v1,d0,d1,p0,p1,rfl,rfl,rfl,h0,h1⟩:=trodAll_two hA;obtain⟨rfl,rfl⟩:=trodVars_none hV;obtain⟨ao,len,cap,rfl⟩:=okWide_slice Tryz.underlying38 (hval 0 38 v0 rfl rfl);obtain⟨cs,rfl,_⟩:=okWide_struct Tryz.underlying42 (hval 1 42 v1 rfl rfl);have k0:=h0;have k1:=h1;have lt0:∀x∈p0,x.block<W.heap.size:=by obtain⟨m,hm⟩:=k0;exact DataW.trod_lt m _ _ _ hm
 have lt1:∀x∈p1,x.block<W.heap.size:=by obtain⟨m,hm⟩:=k1;exact DataW.trod_lt m _ _ _ hm
 obtain⟨fuel0,hf0⟩:=h0;obtain⟨fuel1,hf1⟩:=h1;obtain⟨hm,F,hinP⟩:=open_insS (by simpa[Value.cells]using hf0);obtain⟨aoR,nR,capR,R,z,c,hz,hc,aoH,nH,capH,Hp,pc,st,aoO,nO,capO,K,V,hcs,mR,mH,mD,mO,hr,hin⟩:=open_machR hf1;have:cs=#[.slice aoR nR capR,.bool z,.bool c,.bool hz,.bool hc,.slice aoH nH capH,.int .i64 pc,.int .i64 st,.slice aoO nO capO]:=by
  cases cs;simpa[Value.cells]using hcs
 subst this;clear hA0 hval0;have fin:∀(e:Ending)(W':World),e=.returned (.bool true)/\Below W.heap.size W W'->∃v,e=.returned v/\Rows.fnExactStepMachSpec.post enc Tryz.prog Tryz.f4 false true false false W #[.slice ao len cap,.agg #[.slice aoR nR capR,.bool z,.bool c,.bool hz,.bool hc,.slice aoH nH capH,.int .i64 pc,.int .i64 st,.slice aoO nO capO]] v W':=by
  rintro e W'⟨he,bel⟩;subst he;exact⟨_,rfl,_,_,_,[],_,[],hW',trodAll_mk1 (shut_bool Tryz.underlying4 _),trodAll_mk2 (Below.trod step_laidOut (by kernel_rfl) (of_decide_eq_true (by kernel_rfl)) k0 bel lt0) (Below.trod step_laidOut (by kernel_rfl) (of_decide_eq_true (by kernel_rfl)) k1 bel lt1),rfl,bel.frame _,fun h=>by cases h⟩
 by_cases hl:len<=1048576
 ·exact(lawStep_walk ao len cap F aoR nR capR R z c hz hc aoH nH capH Hp pc st aoO nO capO K V W hl hinP mR mH mD mO hr hin).mono fin
 ·exact(lawStep_great ao len cap _ rfl (by omega) hm W).mono fin
theorem stepMach_holds:Rows.FnExactStepMachSaid:=
 OpenClaim.holds_of_wide 4 Tryz.f4 rfl rfl rfl rfl rfl rfl rfl ⟨rfl,rfl,rfl,rfl,rfl⟩ rfl rfl rfl rfl rfl (by kernel_rfl) Tryz.func4 (by kernel_rfl)
  (of_decide_eq_true (by kernel_rfl)) (by unfold Func.isWrapper;first|(rw[if_pos (by decide+kernel)];kernel_rfl)|(rw[if_neg (by decide+kernel)];exact⟨rfl,rfl⟩))
  (fun os started H enc _=>lawStep_lifted os started H enc)
end Go.Proofs.YtpbceodheeepoaaGreat
