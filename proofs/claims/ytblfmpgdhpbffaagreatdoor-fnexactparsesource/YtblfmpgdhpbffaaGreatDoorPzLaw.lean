import Derived.Test.YtblfmpgdhpbffaaGreatDoorOfPzWalk
import Derived.Test.YtblfmpgdhpbffaaGreatDoorOfOpenRow
import Derived.Test.YtblfmpgdhpbffaaGreatDoorCards
import Derived.Test.YtblfmpgdhpbffaaGreatDoorTie
import Derived.OpenShut
import Derived.ChangeOld
import Derived.Below
import Derived.ProofKit
import Derived.LaidMore
import Derived.Lay
import Derived.SevenTiedAt
import Derived.Stop.Joined
import Derived.Stop.LaidErr
import Derived.Shelf.Vars
set_option maxRecDepth 100000
namespace Go.Proofs.YtblfmpgdhpbffaaGreatDoor
open Go.ChangeShapes Go.WideShapes Go.ChangeAt Go.RowKit Go.Deep
theorem pzl_own:ownKnob Tryz.prog.godebug=none:=by kernel_rfl
theorem pzl_laidOut:laidOutB Tryz.prog=true:=by kernel_rfl
def byL(n:Nat)(R:Nat->Int):List UInt8:=(List.range n).map fun i=>UInt8.ofNat (R i).toNat
theorem byL_len(n:Nat)(R:Nat->Int):(byL n R).length=n:=by simp[byL]
theorem byL_at{n:Nat}{R:Nat->Int}{i:Nat}(hi:i<n)(h0:0<=R i)(h1:R i<=255):bF (byL n R) i=R i:=by
 unfold bF byL;rw[List.getD_eq_getElem?_getD,List.getElem?_map,List.getElem?_range hi];simp;omega
theorem handed_both{H:Type}{enc:TypeId×Value->H}{a:Assume}{C:Checked}{os:Os}{f:FuncId}{fn:Func}{s:ChangeSpec}{conds:List PathCond}{apart fresh handsOn again:Bool}{X:World->Array Value->Prop}
 (hX:∀(w w':World)(args:Array Value),w.heap=w'.heap->X w args->X w' args)
 (own:ownKnob C.prog.godebug=none)(started:os.Started)(noInit:C.prog.inits.idxOf? f=none)(hfn:C.prog.funcs[f]?=some fn)
 (witness:∃(w:World)(tape:Tape)(i:Input),w.os=os/\(w.forCall tape i).Shaped C.prog/\i.vars=[]/\Input.okWide C.prog (w.forCall tape i) .any w.heap.size f i/\
   ((s.pre enc C.prog fn conds apart (w.forCall tape i).memory i.args/\X (w.forCall tape i).memory i.args)/\sizedMet enc C.prog fn (OpenSpec.ofChange s) apart (w.forCall tape i).memory i.args)/\a.holds C.prog (lone (Frame.enter C.prog f i.args .normal) [] (w.forCall tape i)))
 (contract:∀(W:World)(base:Nat)(args:Array Value)(ds gs:List (DataW H))(before:List MemPlace),
   (∀(j:Nat)t v,fn.params[j]?=some t->args[j]?=some v->Value.okWide C.prog W .any base t v)->
   DataW.Whole enc C.prog fn.params.toList s.vars apart W args.toList ds gs before->X W args->W.ShapedOpen C.prog->
   Calls C.prog f args W fun e W'=>∃v,e=.returned v/\s.post enc C.prog fn apart fresh handsOn again W args v W'):
 ReturnsInHanded a C os f .any (fun w args=>(s.pre enc C.prog fn conds apart w args/\X w args)/\sizedMet enc C.prog fn (OpenSpec.ofChange s) apart w args) (s.post enc C.prog fn apart fresh handsOn again):=by
 refine returnsInHanded_of_calls own started noInit witness ?_;intro w tape i _ hsh _ hok hpre _;obtain⟨_,_,_,fn',hfn',_,_,_,_,hval⟩:=hok;obtain rfl:fn'=fn:=Option.some.inj (hfn'.symm.trans hfn);obtain⟨⟨⟨ds,gs,before,hw,_⟩,hx⟩,_⟩:=hpre;refine(contract (w.forCall tape i) w.heap.size i.args ds gs before hval (DataW.Whole.of_heap (by rfl) hw) (hX _ _ _ (by rfl) hx) hsh).mono fun e W'⟨v,he,hp⟩=>?_
 subst he;exact ChangeSpec.post_blind hp
theorem var_int{P:Program}{w:World}{n:String}{g:Nat}{t:TypeId}{zero:Array Value}{k:IntKind}(h:w.ShapedOpen P)(hn:P.globalNamed n=some g)(hg:g<P.globals.size)
 (h0:((begin P (fun _ _=>0) default).world.heap[g]?).bind Obj.row?=some (zero,t))(hz:zero.size=1)
 (hb:P.buildable t=true)(hc:P.cellTypes P.depth t=some [t])(hu:P.underlying t=some (.int k)):∃m,w.var? P n=some #[.int k m]:=by
 obtain⟨m,hm⟩:=cell_of_shapedOpen_int h hg h0 hz hb hc hu;obtain⟨cs,hh,hs,_⟩:=h.1 g zero t hg h0;refine⟨m,?_⟩;have h1:cs.size=1:=by omega
 have h2:cs[0]?=some (.int k m):=by
  rw[<-hm];simp[World.cell?,hh]
 have h3:cs=#[.int k m]:=by
  apply Array.ext_getElem?;intro i;match i with
  |0=>rw[h2];rfl
  |i+1=>rw[Array.getElem?_eq_none (by omega),Array.getElem?_eq_none (by simp)]
 unfold World.var?;simp only[hn,Option.bind_some,hh,h3]
theorem tabPz_laid{name:String}{k:IntKind}{zs:List Int}{dd:DataW Unit}(hd:dd=Lib.tabData k zs){W:World}(h:laidMetH Tryz.prog Rows.fnExactParseSourceRow.laid W)(hx:(Rows.fnExactParseSourceRow.laid.filter fun x=>x.1==name)=[(name,dd)]){g:Nat}{t e:TypeId}{n:Nat}
 (hg:Tryz.prog.globalNamed name=some g)(hty:(Tryz.prog.globals[g]?).map (·.type)=some t)(ht:Tryz.prog.underlying t=some (.array n e))(he:Tryz.prog.underlying e=some (.int k))(hce:Tryz.prog.cellsOf e=1)(hct:Tryz.prog.cellsOf t=n):
 Lib.TabIs Tryz.prog W name k zs:=by
 rw[MakeChecks.laidMetH_plain _ _ _ (by kernel_rfl)]at h;have h1:=laidMet.filter (fun x=>x.1==name) h;rw[hx,hd]at h1;exact Lib.tabIs_of_head hg hty ht he hce hct h1
theorem pzl_star: "*" ++ "errors.errorString" = "*errors.errorString" :=by decide
theorem pzl_err(u:TypeId)(h:Tryz.prog.typeName? 3 u=some "*errors.errorString"):u=244:=
 typeName_ptr_named (nm:= "errors.errorString") (by rw[pzl_star];kernel_rfl) (by kernel_rfl) (by decide) u (by rw[pzl_star];exact h)
theorem errPz_laid{name:String}{text:List UInt8}{W:World}(h:laidMetH Tryz.prog Rows.fnExactParseSourceRow.laid W)(hx:(Rows.fnExactParseSourceRow.laid.filter fun x=>x.1==name)=[(name,.iface "*errors.errorString" (.ptr (.agg [.lit (.string text)])))]){g:Nat}
 (hg:Tryz.prog.globalNamed name=some g)(hty:(Tryz.prog.globals[g]?).map (·.type)=some 156):∃tp p,W.var? Tryz.prog name=some #[.iface tp p]:=by
 rw[MakeChecks.laidMetH_plain _ _ _ (by kernel_rfl)]at h;have h1:=laidMet.filter (fun x=>x.1==name) h;rw[hx]at h1;obtain⟨a,s,hv,_⟩:=laid_sentinel h1 hg hty Tryz.underlying156 pzl_err Tryz.underlying244 Tryz.underlying246 rfl rfl Tryz.underlying9 (by kernel_rfl) (by kernel_rfl);exact⟨_,_,hv⟩
theorem pzl_u8:Tryz.prog.cellsOf 5=1:=by kernel_rfl
theorem pzl_wf{n:Int}(h:(Lit.int .u8 n).wf=true):0<=n/\n<=255:=by
 simpa[Lit.wf,IntKind.min,IntKind.max,IntKind.signed,IntKind.bits]using h
theorem open_byZ{H:Type}{enc:TypeId×Value->H}{w:World}{base:Nat}{spare:Nat->Bool}{held:Bool}{fuel:Nat}{ao:Option Addr}{len cap:Nat}{x:DataW H×List MemPlace}
 (h:DataW.trod enc Tryz.prog w base spare held fuel 22 [.slice ao len cap]=some x):len<=maxLen/\∃t:List UInt8,t.length=len/\InRow w ao t.length (numF .u8 (bF t)):=by
 obtain⟨hm,f,hin,hel⟩:=open_row Tryz.underlying22 pzl_u8 (by omega) h;refine⟨hm,?_⟩;have hR:∀i,∃r:Int,i<len->f i=.int .u8 r/\(Lit.int .u8 r).wf=true:=fun i=>by
  by_cases hi:i<len
  ·obtain⟨n,y,hy⟩:=hel i hi
   simp[List.range,List.range.loop]at hy;obtain⟨r,e1,_,wb⟩:=DataW.trod_int Tryz.underlying5 hy;simp at e1;exact⟨r,fun _=>⟨e1,wb⟩⟩
  ·exact⟨0,fun h=>absurd h hi⟩
 obtain⟨R,hR⟩:∃R:Nat->Int,∀i,i<len->f i=.int .u8 (R i)/\(Lit.int .u8 (R i)).wf=true:=⟨fun i=>(hR i).choose,fun i hi=>(hR i).choose_spec hi⟩
 refine⟨byL len R,byL_len len R,?_⟩;rw[byL_len];rw[Nat.mul_one]at hin;exact hin.congr fun i hi=>by
  obtain⟨e1,e2⟩:=hR i hi;have e3:=pzl_wf e2;rw[e1];show _=Value.int .u8 (bF (byL len R) i);rw[byL_at hi e3.1 e3.2]
theorem var_lt{P:Program}{w:World}{n:String}{g:Nat}{cs:Array Value}(h:w.var? P n=some cs)(hg:P.globalNamed n=some g):g<w.heap.size:=by
 unfold World.var? at h;rw[hg]at h;simp only[Option.bind_some]at h;rcases Nat.lt_or_ge g w.heap.size with h'|h'
 ·exact h'
 ·rw[Array.getElem?_eq_none h']at h
  cases h
theorem env_laid{W:World}(hL:laidMetH Tryz.prog Rows.fnExactParseSourceRow.laid W)(hsh:W.ShapedOpen Tryz.prog):Env W W.heap.size:=by
 have t1:Lib.TabIs Tryz.prog W "internal/strconv.uint64pow10" .u64 Lib.pow10Tab:=tabPz_laid (by rfl) hL (by kernel_rfl) (g:=5) (t:=236) (e:=151) (n:=20) (by kernel_rfl) (by kernel_rfl) (by kernel_rfl) (by kernel_rfl) (by kernel_rfl) (by kernel_rfl);have t2:Lib.TabIs Tryz.prog W "strings.asciiSpace" .u8 Lib.asciiSpaceTab:=tabPz_laid (by rfl) hL (by kernel_rfl) (g:=1) (t:=141) (e:=5) (n:=256) (by kernel_rfl) (by kernel_rfl) (by kernel_rfl) (by kernel_rfl) (by kernel_rfl) (by kernel_rfl);obtain⟨m,hm⟩:∃m:Int,W.var? Tryz.prog "internal/bytealg.MaxLen" =some #[.int .i64 m]:=var_int (g:=0) (t:=3) (zero:=#[.int .i64 0]) hsh (by kernel_rfl) (of_decide_eq_true (by kernel_rfl)) (by kernel_rfl) rfl (by kernel_rfl) (by kernel_rfl) (by kernel_rfl);have es:=errPz_laid (name:= "strconv.ErrSyntax") (text:=[105,110,118,97,108,105,100,32,115,121,110,116,97,120]) hL (by kernel_rfl) (g:=3) (by kernel_rfl) (by kernel_rfl);have er:=errPz_laid (name:= "strconv.ErrRange") (text:=[118,97,108,117,101,32,111,117,116,32,111,102,32,114,97,110,103,101]) hL (by kernel_rfl) (g:=4) (by kernel_rfl) (by kernel_rfl);refine⟨t2,t1,es,er,⟨m,hm⟩,fun n hn g hg=>?_⟩;simp only[envN,List.mem_cons,List.not_mem_nil,or_false]at hn;rcases hn with rfl|rfl|rfl|rfl|rfl
 ·exact var_lt t2 hg
 ·exact var_lt t1 hg
 ·obtain⟨_,_,h⟩:=es;exact var_lt h hg
 ·obtain⟨_,_,h⟩:=er;exact var_lt h hg
 ·exact var_lt hm hg
theorem lawPz_lifted(os:Os)(started:os.Started)(H:Type)(enc:TypeId×Value->H):
 ReturnsInHanded {} Tryz.checked os 3 .any (fun w args=>(Rows.fnExactParseSourceSpec.pre enc Tryz.prog Tryz.f3 Rows.fnExactParseSourceRow.domain false w args/\laidMetH Tryz.prog Rows.fnExactParseSourceRow.laid w)/\sizedMet enc Tryz.prog Tryz.f3 (OpenSpec.ofChange Rows.fnExactParseSourceSpec) false w args)
  (Rows.fnExactParseSourceSpec.post enc Tryz.prog Tryz.f3 false true false false):=by
 refine handed_both (C:=Tryz.checked) (X:=fun w _=>laidMetH Tryz.prog Rows.fnExactParseSourceRow.laid w) (fun _ _ _ hh h=>h.of_heap hh) pzl_own started (by kernel_rfl) Tryz.func3
  (ChangeSpec.witness_shaped (enc:=enc) (C:=Tryz.checked) (os:=os) (X:=fun w _=>laidMetH Tryz.prog Rows.fnExactParseSourceRow.laid w) false (World.laidAll Tryz.prog os Rows.fnExactParseSourceRow.laid) #[.slice none 0 0] 8 (World.laidAll_os _ _ _)
    (World.shaped_of_ZipB (by kernel_rfl) (by kernel_rfl)) (by kernel_rfl) (by kernel_rfl) (by kernel_rfl)
    (by rw[MakeChecks.laidMetH_plain _ _ _ (by kernel_rfl)];exact laidMet_laidAll _ (by kernel_rfl) (by kernel_rfl))) ?_
 intro W base args ds gs before hval0 hW hL hsh;have hval:∀(j:Nat)t v,Tryz.f3.params[j]?=some t->args[j]?=some v->Value.okWide Tryz.prog W .any base t v:=hval0;have hW':=hW;obtain⟨p,q,hA0,hV,rfl,_,_⟩:=hW;have hA:DataW.TrodAll enc Tryz.prog W 0 (fun _=>true) true Tryz.f3.params.toList args.toList ds p:=hA0;rw[Tryz.params3]at hA hval;obtain⟨v0,d0,rfl,rfl,h0⟩:=trodAll_one hA;obtain⟨rfl,rfl⟩:=trodVars_none hV;obtain⟨ao,len,cap,rfl⟩:=okWide_slice Tryz.underlying22 (hval 0 22 v0 rfl rfl);have k0:=h0;have lt0:∀x∈p,x.block<W.heap.size:=by obtain⟨m,hm⟩:=k0;exact DataW.trod_lt m _ _ _ hm
 obtain⟨fuel,hf⟩:=h0;obtain⟨hm,t,rfl,hin⟩:=open_byZ (by simpa[Value.cells]using hf);clear hA0 hval0;have fin:∀(e:Ending)(W':World),e=.returned (.bool true)/\Below W.heap.size W W'->∃v,e=.returned v/\Rows.fnExactParseSourceSpec.post enc Tryz.prog Tryz.f3 false true false false W #[.slice ao t.length cap] v W':=by
  rintro e W'⟨he,bel⟩;subst he;exact⟨_,rfl,_,_,_,[],_,[],hW',trodAll_mk1 (shut_bool Tryz.underlying4 _),trodAll_mk1 (Below.trod pzl_laidOut (by kernel_rfl) (of_decide_eq_true (by kernel_rfl)) k0 bel lt0),rfl,bel.frame _,fun h=>by cases h⟩
 by_cases hl:t.length<=1048576
 ·exact(lawPz_walk ao t cap W hl hin (env_laid hL hsh)).mono fin
 ·exact(lawPz_great ao t.length cap W (by omega) hm).mono fin
theorem parseSourceRow_holds:Rows.FnExactParseSourceSaid:=
 OpenClaim.holds_of_wide 3 Tryz.f3 rfl rfl rfl rfl rfl rfl rfl ⟨rfl,rfl,rfl,rfl,rfl⟩ rfl rfl rfl rfl rfl (by kernel_rfl) Tryz.func3 (by kernel_rfl)
  (of_decide_eq_true (by kernel_rfl)) (by unfold Func.isWrapper;first|(rw[if_pos (by decide+kernel)];kernel_rfl)|(rw[if_neg (by decide+kernel)];exact⟨rfl,rfl⟩))
  (fun os started H enc _=>lawPz_lifted os started H enc)
theorem parseSource_holds:Rows.FnExactParseSourceCardSaid:=
 Claim7.holds_tied_plain_at .later [] [.data,.data,.data,.data,.sentinel,.sentinel,.listed,.data,.pinned] true (true,"3cd5675cb39175e07b61540fcc7d8f50a3506f9d9720f104d236c7669b0818d6") true parseSourceRow_holds (fun _ h=>by cases h) (by kernel_rfl) (fun _ h=>by cases h) fnExactParseSource_row_tie rfl ⟨rfl,rfl⟩ (by kernel_rfl) rfl
  (fun f fn hf hfn=>by
    obtain rfl:f=3:=Option.some.inj ((show Tryz.prog.funcNamed "loop.example/s01319/laws.FnExactParseSource" =some 3 by kernel_rfl).symm.trans hf)|>.symm;obtain rfl:fn=Tryz.f3:=(Option.some.inj (Tryz.func3.symm.trans hfn)).symm;exact⟨by kernel_rfl,fun j t ht=>by
     rw[Tryz.params3]at ht;have hm:t∈[22]:=by simpa using Array.mem_of_getElem? ht
     have hall:([22].all fun u=>!Tryz.prog.wantsStandIn u)=true:=by kernel_rfl
     exact(show Tryz.prog.wantsStandIn t=false by simpa using List.all_eq_true.1 hall t hm)⟩)
  (by kernel_rfl)
end Go.Proofs.YtblfmpgdhpbffaaGreatDoor
