import Derived.ScopeJumps
import Derived.Shelf.Bytes.SlIndexAt
import Derived.Test.YtdbhgaegblclaaaDoorRdName
namespace Go.Proofs.YtdbhgaegblclaaaDoor
namespace Go.Proofs
open Go.Shelf
def Tryd.laysIB_ren:Go.Shelf.Ren:=⟨fun|187=>70|255=>81|n=>n,fun|37=>22|5=>5|3=>3|n=>n,fun|n=>n⟩
theorem Tryd.laysIB:Go.Proofs.Lays.n187 Tryd.prog Tryd.laysIB_ren:={
 mixed:=by kernel_rfl
 f187:=Tryd.func70.trans (congrArg some (by kernel_rfl))
 f255:=Tryd.func81.trans (congrArg some (by kernel_rfl))
 t3:=Tryd.underlying3
 a3:=Tryd.isAgg3
 z3:=Tryd.sizeOf3
 v3:=Tryd.zeroValue3
 t5:=Tryd.underlying5
 a5:=Tryd.isAgg5
 z5:=Tryd.sizeOf5
 v5:=Tryd.zeroValue5
 t37:=Tryd.underlying22
 a37:=Tryd.isAgg22
 z37:=Tryd.sizeOf22
 v37:=Tryd.zeroValue22}
end Go.Proofs
open Go.RowKit Go.Proofs
def Jumps(J:Nat->Act->World->Prop)(Q:Exit->Act->World->Prop):Exit->Act->World->Prop
 |.goto l,a,w=>J l a w
 |e,a,w=>Q e a w
theorem Jumps_goto(J:Nat->Act->World->Prop)(Q:Exit->Act->World->Prop)(l:Nat)(a:Act)(w:World):Jumps J Q (.goto l) a w=J l a w:=rfl
theorem Jumps_ret(J:Nat->Act->World->Prop)(Q:Exit->Act->World->Prop)(a:Act)(w:World):Jumps J Q .ret a w=Q .ret a w:=rfl
theorem Jumps_normal(J:Nat->Act->World->Prop)(Q:Exit->Act->World->Prop)(a:Act)(w:World):Jumps J Q .normal a w=Q .normal a w:=rfl
theorem wp_scope_many{P:Program}{a:Act}{w:World}{Q:Exit->Act->World->Prop}{c:Code}(rest:Nat->Code)(J:Nat->Act->World->Prop)(μ:Nat->Act->World->Nat)(hf:∀l a w,J l a w->findLabel c l=some (rest l))
 (first:c.wp P (Jumps J Q) a w)
 (pass:∀l a w,J l a w->(rest l).wp P (Jumps (fun l' a' w'=>J l' a' w'/\μ l' a' w'<μ l a w) Q) a w):(Code.scope c).wp P Q a w:=by
 intro b k cs;have hg:∀l a w,J l a w->gotoIn l (.inScope c::k)=some (.code (rest l)::.inScope c::k):=fun l a w h=>by simp[gotoIn,hf l a w h]
 have key:∀n l a w,μ l a w=n->J l a w->∃e a' w',Q e a' w'/\Arrives P (lone (b.at a (.code (rest l)::.inScope c::k)) cs w) b k cs e a' w':=by
  intro n;induction n using Nat.strongRecOn with
  |_ n ih=>
   intro l a w hn hJ;obtain⟨e,a₁,w₁,hq,harr⟩:=pass l a w hJ b (.inScope c::k) cs;cases e with
   |normal=>exact⟨.normal,a₁,w₁,hq,Steps.trans harr (.one step_inScope)⟩
   |exit id=>exact⟨.exit id,a₁,w₁,hq,fun k' hk=>harr k' (by simp[exitTo,hk])⟩
   |goto l'=>
    obtain⟨hJ',hlt⟩:=hq;obtain⟨e₂,a₂,w₂,hq₂,harr₂⟩:=ih _ (by omega) l' a₁ w₁ rfl hJ';exact⟨e₂,a₂,w₂,hq₂,.of_steps (harr _ (hg l' a₁ w₁ hJ')) harr₂⟩
   |ret=>exact⟨_,a₁,w₁,hq,harr⟩
   |panic ch=>exact⟨_,a₁,w₁,hq,harr⟩
   |outgrown=>exact⟨_,a₁,w₁,hq,harr⟩
 obtain⟨e,a₁,w₁,hq,harr⟩:=first b (.inScope c::k) cs
 cases e with
 |normal=>exact⟨.normal,a₁,w₁,hq,.head step_scope (Steps.trans harr (.one step_inScope))⟩
 |exit id=>exact⟨.exit id,a₁,w₁,hq,fun k' hk=>.head step_scope (harr k' (by simp[exitTo,hk]))⟩
 |goto l'=>
  obtain⟨e₂,a₂,w₂,hq₂,harr₂⟩:=key _ l' a₁ w₁ rfl hq;exact⟨e₂,a₂,w₂,hq₂,.of_steps (.head step_scope (harr _ (hg l' a₁ w₁ hq))) harr₂⟩
 |ret=>exact⟨_,a₁,w₁,hq,.of_steps (.one step_scope) harr⟩
 |panic ch=>exact⟨_,a₁,w₁,hq,.of_steps (.one step_scope) harr⟩
 |outgrown=>exact⟨_,a₁,w₁,hq,.of_steps (.one step_scope) harr⟩
theorem index_pre:∀l:List UInt8,Lib.indexByte l 10=if pre noNl l=l.length then -1 else(pre noNl l:Int)
 |[]=>rfl
 |c::l=>by
  have ih:=index_pre l;have hle:=pre_le noNl l;show(if c==10 then 0 else if Lib.indexByte l 10== -1 then -1 else Lib.indexByte l 10+1)=if(if noNl c=true then pre noNl l+1 else 0)=l.length+1 then -1 else(((if noNl c=true then pre noNl l+1 else 0:Nat)):Int)
  by_cases hc:c=10
  ·subst hc
   have e:noNl 10=false:=by decide
   rw[e];simp
  ·have e:noNl c=true:=by
    unfold noNl;simp only[ne_eq,decide_eq_true_eq];intro h;exact hc (UInt8.toNat_inj.1 h)
   have e1:(c==10)=false:=by simpa using hc
   rw[e,e1,ih];by_cases hp:pre noNl l=l.length
   ·simp[hp]
   ·have h1:¬((pre noNl l:Int)= -1):=by omega
    simp[hp,h1]
theorem indexByte_any(b o cap:Nat)(l:List UInt8)(w:World)(hat:At w b o l.length (numF .u8 (bF l))):
 Calls Tryd.prog 70 #[.slice (some ⟨b,o,none⟩) l.length cap,.int .u8 10] w fun e w'=>e=.returned (.int .i64 (if pre noNl l=l.length then -1 else(pre noNl l:Int)))/\w'=w:=by
 refine(Any.bytes_IndexByte_at Tryd.laysIB ⟨b,o,none⟩ l.length cap (l.map fun c=>(c.toNat:Int)) 10 w (by simp) (fun i hi=>?_)).mono ?_
 ·have hplain:(⟨b,o,none⟩:Addr).add i=⟨b,o+i,none⟩:=by unfold Addr.add;split<;>simp_all
  rw[hplain,hat.2 i hi];unfold numF bF;simp[List.getD_eq_getElem?_getD,hi]
 ·rintro e w'⟨rfl,hw⟩
  refine⟨?_,hw⟩;have e1:Lib.bytesOf (l.map fun c=>(c.toNat:Int))=l:=by
   unfold Lib.bytesOf;rw[List.map_map];have:(fun n:Int=>n.toNat.toUInt8)∘(fun c:UInt8=>(c.toNat:Int))=id:=by
    funext c
    simp
   first|(rw[this,List.map_id])|simp
  rw[e1];show Ending.returned (.int .i64 (Lib.indexByte l 10))=_;rw[index_pre]
end Go.Proofs.YtdbhgaegblclaaaDoor
