import Derived.Test.YtiphbmhoifggiaaGreatDoorPsWalk
import Derived.Test.YtiphbmhoifggiaaGreatDoorOfOpenProc
import Derived.Test.YtiphbmhoifggiaaGreatDoorOfMarkVals
import Derived.Test.YtiphbmhoifggiaaGreatDoorOpenRow
import Derived.Test.YtiphbmhoifggiaaGreatDoorCards
import Derived.Test.YtiphbmhoifggiaaGreatDoorTie
import Derived.OpenShut
import Derived.ChangeOld
import Derived.Below
import Derived.ProofKit
import Derived.LaidMore
import Derived.Lay
import Derived.SevenTiedAt
import Derived.Stop.Joined
set_option maxRecDepth 100000
namespace Go.Proofs.YtiphbmhoifggiaaGreatDoor
open Go.ChangeShapes Go.WideShapes Go.ChangeAt Go.RowKit Go.Deep
theorem fnExactPrintSource_own:ownKnob Tryz.prog.godebug=none:=by kernel_rfl
theorem fnExactPrintSource_laidOut:laidOutB Tryz.prog=true:=by kernel_rfl
theorem tabFnExactPrintSource_laid{name:String}{k:IntKind}{zs:List Int}{dd:DataW Unit}(hd:dd=Lib.tabData k zs){W:World}(h:laidMetH Tryz.prog Rows.fnExactPrintSourceRow.laid W)(hx:(Rows.fnExactPrintSourceRow.laid.filter fun x=>x.1==name)=[(name,dd)]){g:Nat}{t e:TypeId}{n:Nat}
 (hg:Tryz.prog.globalNamed name=some g)(hty:(Tryz.prog.globals[g]?).map (·.type)=some t)(ht:Tryz.prog.underlying t=some (.array n e))(he:Tryz.prog.underlying e=some (.int k))(hce:Tryz.prog.cellsOf e=1)(hct:Tryz.prog.cellsOf t=n):
 Lib.TabIs Tryz.prog W name k zs:=by
 rw[MakeChecks.laidMetH_plain _ _ _ (by kernel_rfl)]at h;have h1:=laidMet.filter (fun x=>x.1==name) h;rw[hx,hd]at h1;exact Lib.tabIs_of_head hg hty ht he hce hct h1
theorem cellsS_src:Tryz.prog.cellsOf 28=4:=by kernel_rfl
theorem cellsS_i64:Tryz.prog.cellsOf 2=1:=by kernel_rfl
theorem cellsS_procs:Tryz.prog.cellsOf 26=1:=by kernel_rfl
theorem open_src{H:Type}{enc:TypeId×Value->H}{w:World}{base:Nat}{spare:Nat->Bool}{held:Bool}{fuel:Nat}{cs:List Value}{x:DataW H×List MemPlace}(h:DataW.trod enc Tryz.prog w base spare held fuel 28 cs=some x):
 ∃(d:Int)(aoH:Option Addr)(nH cH:Nat)(S:Nat->HS)(aoR:Option Addr)(nR cR:Nat)(V:Nat->VV)(aoP:Option Addr)(np cP:Nat)(Q:Nat->PI),cs=[.int .i64 d,.slice aoH nH cH,.slice aoR nR cR,.slice aoP np cP]/\nH<=maxLen/\nR<=maxLen/\np<=maxLen/\SigIn w aoH nH S aoR nR V/\InRow w aoP np (piF Q)/\∀i,i<np->(Q i).len<=maxLen/\InRow w (Q i).ao ((Q i).len*11) (stF (Q i).L):=by
 obtain⟨xs,n,_,_,hl,hlen,hf⟩:=DataW.trod_struct Tryz.underlying28 h;rw[cellsS_src]at hl;match cs,hl with
 |[c0,c1,c2,c3],_=>
  match xs,hlen with
  |[y0,y1,y2],_=>
   have h0:=hf 0 _ rfl;have h1:=hf 1 _ rfl;have h2:=hf 2 _ rfl;simp[cellsS_i64,cellsLSig,cellsS_procs]at h0 h1 h2;obtain⟨d,e0,_⟩:=DataW.trod_int Tryz.underlying2 h0;obtain⟨aoH,nH,cH,S,aoR,nR,cR,V,e1,mH,mR,sg⟩:=open_sig h1;obtain⟨aoP,np,cP,e2⟩:=v_slice_shape Tryz.underlying26 h2;rw[e2]at h2;obtain⟨mP,Q,ip,iq⟩:=open_procS h2;simp at e0 e1;obtain⟨f0,f1⟩:=e1;subst e0 f0 f1 e2;exact⟨d,aoH,nH,cH,S,aoR,nR,cR,V,aoP,np,cP,Q,rfl,mH,mR,mP,sg,ip,iq⟩
theorem fnExactPrintSource_lifted(os:Os)(started:os.Started)(H:Type)(enc:TypeId×Value->H):
 ReturnsInHanded {} Tryz.checked os 3 .any (fun w args=>(Rows.fnExactPrintSourceSpec.pre enc Tryz.prog Tryz.f3 Rows.fnExactPrintSourceRow.domain false w args/\laidMetH Tryz.prog Rows.fnExactPrintSourceRow.laid w)/\sizedMet enc Tryz.prog Tryz.f3 (OpenSpec.ofChange Rows.fnExactPrintSourceSpec) false w args)
  (Rows.fnExactPrintSourceSpec.post enc Tryz.prog Tryz.f3 false true false false):=by
 refine returnsInHanded_of_change_and (C:=Tryz.checked) (X:=fun w _=>laidMetH Tryz.prog Rows.fnExactPrintSourceRow.laid w) (fun _ _ _ hh h=>h.of_heap hh) fnExactPrintSource_own started (by kernel_rfl) Tryz.func3
  (ChangeSpec.witness_shaped (enc:=enc) (C:=Tryz.checked) (os:=os) (X:=fun w _=>laidMetH Tryz.prog Rows.fnExactPrintSourceRow.laid w) false (World.laidAll Tryz.prog os Rows.fnExactPrintSourceRow.laid) #[.agg #[.int .i64 0,.slice none 0 0,.slice none 0 0,.slice none 0 0]] 8 (World.laidAll_os _ _ _)
    (World.shaped_of_ZipB (by kernel_rfl) (by kernel_rfl)) (by kernel_rfl) (by kernel_rfl) (by kernel_rfl)
    (by rw[MakeChecks.laidMetH_plain _ _ _ (by kernel_rfl)];exact laidMet_laidAll _ (by kernel_rfl) (by kernel_rfl))) ?_
 intro W base args ds gs before hval0 hW hc _ hL _;have hval:∀(j:Nat)t v,Tryz.f3.params[j]?=some t->args[j]?=some v->Value.okWide Tryz.prog W .any base t v:=hval0;have hW':=hW;obtain⟨p,q,hA0,hV,rfl,_,_⟩:=hW;have hA:DataW.TrodAll enc Tryz.prog W 0 (fun _=>true) true Tryz.f3.params.toList args.toList ds p:=hA0;rw[Tryz.params3]at hA hval;obtain⟨v0,d0,rfl,rfl,h0⟩:=trodAll_one hA;obtain⟨rfl,rfl⟩:=trodVars_none hV;obtain⟨cs,rfl,_⟩:=okWide_struct Tryz.underlying28 (hval 0 28 v0 rfl rfl);have k0:=h0;have lt0:∀x∈p,x.block<W.heap.size:=by obtain⟨m,hm⟩:=k0;exact DataW.trod_lt m _ _ _ hm
 obtain⟨fuel,hf⟩:=h0;obtain⟨d,aoH,nH,cH,S,aoR,nR,cR,V,aoP,np,cP,Q,hcs,mH,mR,mP,sg,ip,iq⟩:=open_src hf;have:cs=#[.int .i64 d,.slice aoH nH cH,.slice aoR nR cR,.slice aoP np cP]:=by
  cases cs;simpa[Value.cells]using hcs
 subst this;clear hA0 hval0;have t1:Lib.TabIs Tryz.prog W "internal/strconv.uint64pow10" .u64 Lib.pow10Tab:=tabFnExactPrintSource_laid (by rfl) hL (by kernel_rfl) (g:=2) (t:=212) (e:=185) (n:=20) (by kernel_rfl) (by kernel_rfl) (by kernel_rfl) (by kernel_rfl) (by kernel_rfl) (by kernel_rfl);have t2:Lib.TabIs Tryz.prog W "strings.asciiSpace" .u8 Lib.asciiSpaceTab:=tabFnExactPrintSource_laid (by rfl) hL (by kernel_rfl) (g:=0) (t:=149) (e:=5) (n:=256) (by kernel_rfl) (by kernel_rfl) (by kernel_rfl) (by kernel_rfl) (by kernel_rfl) (by kernel_rfl);have fin:∀(e:Ending)(W':World),e=.returned (.bool true)/\Below W.heap.size W W'->∃v,e=.returned v/\Rows.fnExactPrintSourceSpec.post enc Tryz.prog Tryz.f3 false true false false W #[.agg #[.int .i64 d,.slice aoH nH cH,.slice aoR nR cR,.slice aoP np cP]] v W':=by
  rintro e W'⟨he,bel⟩;subst he;exact⟨_,rfl,_,_,_,[],_,[],hW',trodAll_mk1 (shut_bool Tryz.underlying4 _),trodAll_mk1 (Below.trod fnExactPrintSource_laidOut (by kernel_rfl) (of_decide_eq_true (by kernel_rfl)) k0 bel lt0),rfl,bel.frame _,fun h=>by cases h⟩
 exact(lawSrc_walk d aoH nH cH S aoR nR cR V aoP np cP Q W mH mR mP sg ip iq t1 t2).mono fin
theorem fnExactPrintSourceRow_holds:Rows.FnExactPrintSourceSaid:=
 OpenClaim.holds_of_wide 3 Tryz.f3 rfl rfl rfl rfl rfl rfl rfl ⟨rfl,rfl,rfl,rfl,rfl⟩ rfl rfl rfl rfl rfl (by kernel_rfl) Tryz.func3 (by kernel_rfl)
  (of_decide_eq_true (by kernel_rfl)) (by unfold Func.isWrapper;first|(rw[if_pos (by decide+kernel)];kernel_rfl)|(rw[if_neg (by decide+kernel)];exact⟨rfl,rfl⟩))
  (fun os started H enc _=>fnExactPrintSource_lifted os started H enc)
theorem fnExactPrintSource_holds:Rows.FnExactPrintSourceCardSaid:=
 Claim7.holds_tied_plain_at .later [] [.data,.data,.data,.listed,.data] true (true,"8d130ff3bde23b9d6659d0ff0ad238e6c303880e9d831dd29db9fab1eeb083ff") true fnExactPrintSourceRow_holds (fun _ h=>by cases h) (by kernel_rfl) (fun _ h=>by cases h) fnExactPrintSource_row_tie rfl ⟨rfl,rfl⟩ (by kernel_rfl) rfl
  (fun f fn hf hfn=>by
    obtain rfl:f=3:=Option.some.inj ((show Tryz.prog.funcNamed "loop.example/s01319/laws.FnExactPrintSource" =some 3 by kernel_rfl).symm.trans hf)|>.symm;obtain rfl:fn=Tryz.f3:=(Option.some.inj (Tryz.func3.symm.trans hfn)).symm;exact⟨by kernel_rfl,fun j t ht=>by
     rw[Tryz.params3]at ht;have hm:t∈[28]:=by simpa using Array.mem_of_getElem? ht
     have hall:([28].all fun u=>!Tryz.prog.wantsStandIn u)=true:=by kernel_rfl
     exact(show Tryz.prog.wantsStandIn t=false by simpa using List.all_eq_true.1 hall t hm)⟩)
  (by kernel_rfl)
end Go.Proofs.YtiphbmhoifggiaaGreatDoor
