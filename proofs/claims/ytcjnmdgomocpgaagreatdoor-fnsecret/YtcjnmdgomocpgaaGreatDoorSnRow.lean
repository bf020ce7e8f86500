import Derived.Test.YtcjnmdgomocpgaaGreatDoorSnLaw
import Derived.Test.YtcjnmdgomocpgaaGreatDoorCards
import Derived.Test.YtcjnmdgomocpgaaGreatDoorTie
import Derived.OpenShut
set_option maxHeartbeats 800000
set_option maxRecDepth 100000
namespace Go.Proofs.YtcjnmdgomocpgaaGreatDoor
open Go.ChangeShapes Go.WideShapes Go.ChangeAt Go.RowKit Go.Deep
theorem kC:ownKnob Tryz.prog.godebug=none:=AV
theorem wW:Tryz.prog.globalNamed "errors.errorType" =some 0:=AV
theorem wV:(Tryz.prog.cutTypes.find? (·.1== "internal/reflectlite.rtype")).map (·.2)=some 183:=AV
theorem YK:((List.range 279).filter fun t=>Tryz.prog.rowNamed t [101,114,114,111,114])=[78]:=AV
theorem oU:Tryz.prog.types.size=279:=AV
theorem Oy{W:World}(h:laidMetH Tryz.prog Rows.fnSecretRow.laid W):W.cell? (Va 0 0)=some (.iface 183 (.agg #[.pointer (some ⟨1,78,none⟩)])):=by
 have m:laidMet Tryz.prog [] W/\handlesMet Tryz.prog Rows.fnSecretRow.laid W:=h;obtain⟨a,u,o,d,e,j,k,b⟩:=m.2 _ (List.mem_singleton.2 rfl);have l:a=[101,114,114,111,114]:=(Option.some.inj d).symm;subst l;obtain rfl:=Option.some.inj (wV.symm.trans e);have c:o∈(List.range 279).filter fun t=>Tryz.prog.rowNamed t [101,114,114,111,114]:=List.mem_filter.2 ⟨List.mem_range.2 (by rw[<-oU];exact j),k⟩
 rw[YK]at c;obtain rfl:=List.mem_singleton.1 c;have n:typeHandle Tryz.prog 78=.pointer (some ⟨1,78,none⟩):=AV;rw[n]at b;simpa using World.var?_cell wW b 0
def iG(w0:World):World:=
 {w0 with heap:=w0.heap.modify 0 fun
  |.cells _ t frozen=>.cells #[.iface 183 (.agg #[.pointer (some ⟨1,78,none⟩)])] t frozen
  |o=>o}
theorem QR(b:Os)(a:Array Value):laidMetH Tryz.prog Rows.fnSecretRow.laid ((iG (World.holding Tryz.prog b ⟨#[],#[],[]⟩)).forCall (fun _ _=>0) ⟨#[],a,[]⟩).memory:=
 laidMetH_of_parts (laidMet_nil _ _) AV
theorem gQ{W:World}{v:Value}(h:W.cell? (Va 0 0)=some v):0<W.heap.size:=by
 rcases Nat.eq_zero_or_pos W.heap.size with a|b
 ·simp[World.cell?,a]at h
 ·exact b
theorem Jf(k:Option Addr)(n d:Nat)(c:Option Addr)(b a:Nat)(w:World)(h:1048576<n∨1048576<b)(m:n<=maxLen)(j:b<=maxLen):
 Ks 3 #[.slice k n d,.slice c b a] w fun e o=>e=.returned (.bool true)/\Below w.heap.size w o:=by
 unfold maxLen at m j;by_cases p:1048576<n
 ·have l:(1048576:Int)<n:=AB
  clear h;go_enter Tryz.func3,Tryz.ntmps3;go_wp2;go_ret;exact⟨rfl,Below.refl _ _⟩
 ·have q:¬(1048576:Int)<n:=AB
  have l:(1048576:Int)<b:=AB;clear h;go_enter Tryz.func3,Tryz.ntmps3;go_wp2;go_ret;exact⟨rfl,Below.refl _ _⟩
theorem xG:Tryz.prog.cellsOf 5=1:=AV
theorem rC{n:Int}(h:(Lit.int .u8 n).wf=true):0<=n/\n<=255:=by
 simpa[Lit.wf,IntKind.min,IntKind.max,IntKind.signed,IntKind.bits]using h
theorem ng{H:Type}{c:TypeId×Value->H}{w:World}{l:Nat}{E:Nat->Bool}{B:Bool}{q:Nat}{U:Option Addr}{X Y:Nat}{x:DataW H×List MemPlace}
 (h:DataW.trod c Tryz.prog w l E B q 22 [.slice U X Y]=some x):X<=maxLen/\I9 w w.heap.size U X:=by
 obtain⟨z,f,a,d⟩:=open_row Tryz.underlying22 xG AB h;refine⟨z,?_⟩;rw[Nat.mul_one]at a;rcases a with s|⟨b,e,u,k⟩
 ·exact .inl s
 ·refine .inr ⟨b,e,u,k.lt,fun i m=>?_⟩
  obtain⟨n,y,o⟩:=d i m;simp[List.range,List.range.loop]at o;obtain⟨r,j,_,p⟩:=DataW.trod_int Tryz.underlying5 o;simp at j;exact⟨r,(rC p).1,(rC p).2,by rw[k.cell m,j]⟩
theorem Je(u:Os)(n:u.Started)(H:Type)(b:TypeId×Value->H):
 ReturnsInHanded {} Tryz.checked u 3 .any (fun w a=>(Rows.fnSecretSpec.pre b Tryz.prog Tryz.f3 Rows.fnSecretRow.domain false w a/\laidMetH Tryz.prog Rows.fnSecretRow.laid w)/\sizedMet b Tryz.prog Tryz.f3 (OpenSpec.ofChange Rows.fnSecretSpec) false w a)
  (Rows.fnSecretSpec.post b Tryz.prog Tryz.f3 false true false false):=by
 refine returnsInHanded_of_change_and (C:=Tryz.checked) (X:=fun w _=>laidMetH Tryz.prog Rows.fnSecretRow.laid w) (fun _ _ _ hh h=>h.of_heap hh) kC n AV Tryz.func3
  (ChangeSpec.witness_at (enc:=b) (C:=Tryz.checked) (os:=u) (X:=fun w _=>laidMetH Tryz.prog Rows.fnSecretRow.laid w) false (iG (World.holding Tryz.prog u ⟨#[],#[],[]⟩)) #[.slice none 0 0,.slice none 0 0] 8 rfl AV AV AV AV AV (QR u _)) ?_
 intro W y a ds gs B l Y _ _ hL _;have k:∀(j:Nat)t v,Tryz.f3.params[j]?=some t->a[j]?=some v->Value.okWide Tryz.prog W .any y t v:=l;have K:=Y;obtain⟨p,q,A,hV,rfl,_,_⟩:=Y;have U:DataW.TrodAll b Tryz.prog W 0 (fun _=>true) true Tryz.f3.params.toList a.toList ds p:=A;rw[Tryz.params3]at U k;obtain⟨v0,v1,d0,d1,p0,p1,rfl,rfl,rfl,R,S⟩:=trodAll_two U;obtain⟨rfl,rfl⟩:=trodVars_none hV;obtain⟨o,D,c,rfl⟩:=okWide_slice Tryz.underlying22 (k 0 22 v0 rfl rfl);obtain⟨r,E,d,rfl⟩:=okWide_slice Tryz.underlying22 (k 1 22 v1 rfl rfl);have k0:=R;have O:∀x∈p0,x.block<W.heap.size:=by obtain⟨m,N⟩:=k0;exact DataW.trod_lt m _ _ _ N
 obtain⟨I,L⟩:=R;obtain⟨m0,b0⟩:=ng (by simpa[Value.cells]using L);have k1:=S;have Q:∀x∈p1,x.block<W.heap.size:=by obtain⟨m,N⟩:=k1;exact DataW.trod_lt m _ _ _ N
 obtain⟨J,M⟩:=S;obtain⟨m1,b1⟩:=ng (by simpa[Value.cells]using M);have Z:=Oy hL;clear A l;have z:∀(e:Ending)(F:World),e=.returned (.bool true)/\Bw W F->∃v,e=.returned v/\Rows.fnSecretSpec.post b Tryz.prog Tryz.f3 false true false false W #[.slice o D c,.slice r E d] v F:=by
  rintro e F⟨he,s⟩;subst he;exact⟨_,rfl,_,_,_,[],_,[],K,trodAll_mk1 (shut_bool Tryz.underlying4 _),trodAll_mk2 (Below.trod (by kernel_rfl:laidOutB Tryz.prog=true) AV (of_decide_eq_true AV) k0 s O) (Below.trod (by kernel_rfl:laidOutB Tryz.prog=true) AV (of_decide_eq_true AV) k1 s Q),rfl,s.frame _,fun h=>by cases h⟩
 by_cases hl:D<=1048576/\E<=1048576
 ·exact(LG o D c r E d W hl.1 hl.2 b0 b1 Z (gQ Z)).mono z
 ·exact(Jf o D c r E d W AB m0 m1).mono z
theorem I7:Rows.FnSecretSaid:=
 OpenClaim.holds_of_wide 3 Tryz.f3 rfl rfl rfl rfl rfl rfl rfl ⟨rfl,rfl,rfl,rfl,rfl⟩ rfl rfl rfl rfl rfl AV Tryz.func3 AV
  (of_decide_eq_true AV) (by unfold Func.isWrapper;first|(rw[if_pos (by decide+kernel)];kernel_rfl)|(rw[if_neg (by decide+kernel)];exact⟨rfl,rfl⟩))
  (fun c a H b _=>Je c a H b)
theorem fnSecret_holds:Rows.FnSecretCardSaid:=
 Claim7.holds_tied_plain_at .later [] [.handle] true (true,"3353621390c82a1af402b0d102e0f314727153d56633ee0a918e59a1890d4b25") true I7 (fun _ h=>by cases h) AV (fun _ h=>by cases h) fnSecret_row_tie rfl ⟨rfl,rfl⟩ AV rfl
  (fun f d e b=>by
    obtain rfl:f=3:=Option.some.inj ((show Tryz.prog.funcNamed "loop.example/s01319/laws.FnSecret" =some 3 by kernel_rfl).symm.trans e)|>.symm;obtain rfl:d=Tryz.f3:=(Option.some.inj (Tryz.func3.symm.trans b)).symm;exact⟨AV,fun j t c=>by
     rw[Tryz.params3]at c;have k:t∈[22,22]:=by simpa using Array.mem_of_getElem? c
     have a:([22,22].all fun u=>!Tryz.prog.wantsStandIn u)=true:=AV;exact(show Tryz.prog.wantsStandIn t=false by simpa using List.all_eq_true.1 a t k)⟩)
  AV
end Go.Proofs.YtcjnmdgomocpgaaGreatDoor
