import Derived.Test.YtfpeecaaleijcaaGreatDoorOfCl
import Derived.Test.YtfpeecaaleijcaaGreatDoorOfRdTake
import Derived.Test.YtfpeecaaleijcaaGreatDoorOfAsmNew
import Derived.ScopeJumps
import Derived.Shelf.Bytes.SlIndexAt
set_option maxHeartbeats 6400000
set_option maxRecDepth 20000
namespace Go.Proofs.YtfpeecaaleijcaaGreatDoor
open Go.RowKit
theorem TG:∀(k:Nat)(l:List UInt8),(∀j:Nat,j<k->l≠(J9 ((j:Int)+1)).data.toList)->aQ k l=0
 |0,_,_=>rfl
 |k+1,l,h=>by
  show(if l=_ then _ else aQ k l)=0;rw[if_neg (h k (by omega)),TG k l fun j hj=>h j (by omega)]
theorem dZ:∀k:Nat,k<34->aQ 34 (KW ((k:Int)+1))=(k:Int)+1:=by decide
theorem dB(l:List UInt8):aQ 34 l=Cg l:=by
 by_cases h:Cg l=0
 ·rw[h]
  refine TG 34 l fun j hj e=>?_
  have h1:=(Mq (op:=(j:Int)+1) (by omega) (by omega)).2.2;have:Cg l=(j:Int)+1:=by rw[e];exact h1
  omega
 ·obtain⟨h1,h2,h3⟩:=IL rfl h
  have h4:=dZ (Cg l-1).toNat (by omega);rw[show(((Cg l-1).toNat:Nat):Int)+1=Cg l by omega,<-h3]at h4;exact h4
theorem MV{w:World}{b o:Nat}{l:List UInt8}(cap:Nat)(h:At w b o l.length (EG .u8 (bF l))):(convert 22 9 (.slice (some ⟨b,o,none⟩) l.length cap)).run Tryz.prog w=.ok (.string (Ck l)) w:=by
 have hx:=run_convert_bytes_arg (P:=Tryz.prog) w 22 5 Tryz.underlying22 Tryz.underlying5 b o l.length cap (l.map fun c=>(c.toNat:Int)) (by simp) (fun i hi=>by
  rw[h.2 i hi];unfold EG bF;simp[hi]) 9 Tryz.underlying9
 rw[hx];have:strOfNums (l.map fun c=>(c.toNat:Int))=Ck l:=by
  unfold strOfNums Ck;rw[List.map_map];have:(fun n:Int=>UInt8.ofNat n.toNat)∘(fun c:UInt8=>(c.toNat:Int))=id:=by
   funext c
   simp
  rw[this,List.map_id]
 rw[this]
def Yq(l:List UInt8)(b o cap:Nat)(e:Ending):Prop:=
 ∃o',e=.returned (.tuple #[Vi (Cg (l.take (pre DF l))),.slice (some ⟨b,o',none⟩) (l.length-pre DF l) (cap-pre DF l)])/\(o'=o+pre DF l∨l.length-pre DF l=0)
theorem Qi(sb nb ob mb:Nat)(d:Int)(b o cap:Nat)(l:List UInt8)(w:World)(p:SC w sb nb ob mb d)(hops:Fe w ob)(hl:(l.length:Int)<=1048576)(hcap:l.length<=cap)(hat:At w b o l.length (EG .u8 (bF l))):
 Calls Tryz.prog 125 #[Vq sb,.slice (some ⟨b,o,none⟩) l.length cap] w fun e w'=>Yq l b o cap e/\Below w.heap.size w w':=by
 have HA:=hxy hat;have HSC:=hxy p;have HOP:=hxy hops;clear hat p hops;go_enter Tryz.func125,Tryz.ntmps125;go_wp2_with fail;go_loopw [6](fun jv wr=>wr=w/\∃j:Nat,j<=l.length/\j<=pre DF l/\jv=Vi j)(fun jv _=>l.length-(intOf jv).toNat)
 case atStart=>exact⟨rfl,0,Nat.zero_le _,Nat.zero_le _,rfl⟩
 case round=>
  obtain⟨hw,j,hj,hp,rfl⟩:=hrel;rw[hw];clear hw;have HP:=hxy hp;clear hp;obtain⟨lc,hlc⟩:=Ae ((decide (j<l.length)&&DF (l.getD j 0)));have HLC:=hxy hlc;clear hlc;go_upto_region 2 with fail;go_cut [24](fun b wx=>wx=w/\b=.bool lc)
  case first=>
   by_cases hlt:j<l.length
   ·have hl1:(j:Int)<l.length:=by omega
    obtain⟨c,hc⟩:=Ae (l.getD j 0);have g0:w.cell? (Va b (o+j))=some (.int .u8 (c.toNat:Int)):=by rw[<-hc];exact GY HA.out hlt
    have HC:=hxy hc;clear hc;by_cases h97:97<=c.toNat
    ·have k97:(97:Int)<=(c.toNat:Int):=by omega
     have e:decide ((c.toNat:Int)<=122)=lc:=by
      rw[<-HLC.out,HC.out];simp[DF,hlt,h97];omega
     go_wp2_with fail;go_meet;exact⟨rfl,rfl⟩
    ·have k97:¬(97:Int)<=(c.toNat:Int):=by omega
     have e:Hid (false=lc):=(by rw[<-HLC.out,HC.out];simp[DF,h97]:false=lc)
     go_wp2_with fail;go_meet;exact⟨rfl,congrArg Value.bool e.out⟩
   ·have hl1:¬(j:Int)<l.length:=by omega
    have e:Hid (false=lc):=(by rw[<-HLC.out];simp[hlt]:false=lc)
    go_wp2_with fail;go_meet;exact⟨rfl,congrArg Value.bool e.out⟩
  case rest=>
  obtain⟨hw,rfl⟩:=hcut;rw[hw];clear hw;cases lc with
  |true=>
   have h1:j<l.length/\DF (l.getD j 0)=true:=by simpa using HLC.out
   have HS:=hxy ((Ji DF l j HP.out h1.1).1 h1.2);have hj1:=h1.1;clear h1;go_wp2_with fail;go_roundw
   case rel=>exact⟨trivial,j+1,by omega,HS.out,by go_num⟩
   case measure=>simp[intOf];omega
  |false=>
   have hpj:pre DF l=j:=by
    have h1:=HLC.out;by_cases hlt:j<l.length
    ·exact(Ji DF l j HP.out hlt).2 (by simpa[hlt]using h1)
    ·exact U1 DF l j HP.out (by omega)
   have HPJ:=hxy hpj;have hjc:(j:Int)<=cap:=by omega
   have hjl:(j:Int)<=l.length:=by omega
   have lsz:sb<w.heap.size:=(jH.1 HSC.out.S).1;have c2:∀w',Below w.heap.size w w'->w'.cell? (Va sb 2)=some (.map (some ob)):=fun w' hb=>(hb.cell (p:=Va sb 2) lsz).trans (Ab HSC.out.S 2)
   have hcv:∀w',Below w.heap.size w w'->(convert 22 9 (.slice (some ⟨b,o,none⟩) j cap)).run Tryz.prog w'=.ok (.string (Ck (l.take j))) w':=fun w' hb=>by
    have h1:=MV (w:=w') (b:=b) (o:=o) (l:=l.take j) cap ((VP HA.out j).below hb HA.out.lt);rw[List.length_take,show min j l.length=j by omega]at h1;exact h1
   have hlk:∀w',Below w.heap.size w w'->(Instr.lookup 104 (.map (some ob)) (.string (Ck (l.take j))) false).run Tryz.prog w'=.ok (Vi (Cg (l.take j))) w':=fun w' hb=>by
    obtain⟨ob1,h1,h2⟩:=HOP.out;have h3:=h2 w' ((hb.block ob (jH.1 h1).1).trans h1) (Ck (l.take j)) (by
     have:(Ck (l.take j)).size=(l.take j).length:=by show(l.take j).toArray.size=_;simp
     rw[this,List.length_take];unfold maxLen;omega)
    rw[Jh,dB]at h3;exact h3
   obtain⟨v,hv⟩:=Ae (Cg (l.take j));have HV:=hxy hv;rw[hv]at hlk;clear hpj HLC HP hv;by_cases hjx:j=cap
   ·have hc1:(j:Int)=cap:=by omega
    have hj0:l.length-j=0:=by omega
    subst hjx;go_upto_region 4 with fail;refine wp_region_held_drew (S:=fun w'=>Below w.heap.size w w') (by kernel_rfl) (Below.refl _ _).drew (fun _=>?_);refine AB 0 rfl ?_;refine AB 1 rfl ?_;refine AB 2 rfl ?_;refine AB 3 rfl ?_;refine AB 4 rfl ?_;refine AB 5 rfl ?_;refine AB 6 rfl ?_;refine AB 7 rfl ?_;refine AB 8 rfl ?_;refine AB 9 rfl ?_;refine AB 10 rfl ?_;refine AB 11 rfl ?_;refine AB 12 rfl ?_;refine AB 13 rfl ?_;refine wpAnyH_done (by kernel_rfl) ?_ _;go_wp2_with fail;go_ret2;refine⟨?_,(Below.refl _ _).drew⟩;unfold Yq;rw[HPJ.out,HV.out];exact⟨o,by rw[hj0,Nat.sub_self];rfl,.inr hj0⟩
   ·have hc1:¬(j:Int)=cap:=by omega
    go_upto_region 4 with fail;refine wp_region_held_drew (S:=fun w'=>Below w.heap.size w w') (by kernel_rfl) (Below.refl _ _).drew (fun _=>?_);refine AB 0 rfl ?_;refine AB 1 rfl ?_;refine AB 2 rfl ?_;refine AB 3 rfl ?_;refine AB 4 rfl ?_;refine AB 5 rfl ?_;refine AB 6 rfl ?_;refine AB 7 rfl ?_;refine AB 8 rfl ?_;refine AB 9 rfl ?_;refine AB 10 rfl ?_;refine AB 11 rfl ?_;refine AB 12 rfl ?_;refine AB 13 rfl ?_;refine wpAnyH_done (by kernel_rfl) ?_ _;go_wp2_with fail;go_ret2;refine⟨?_,(Below.refl _ _).drew⟩;unfold Yq;rw[HPJ.out,HV.out];exact⟨o+j,rfl,.inl rfl⟩
end Go.Proofs.YtfpeecaaleijcaaGreatDoor
namespace Go.Proofs.YtfpeecaaleijcaaGreatDoor
namespace Go.Proofs
open Go.Shelf
def Tryz.laysIB_ren:Go.Shelf.Ren:=⟨fun|187=>93|255=>128|n=>n,fun|37=>22|5=>5|3=>3|n=>n,fun|n=>n⟩
theorem Tryz.laysIB:Go.Proofs.Lays.n187 Tryz.prog Tryz.laysIB_ren:={
 mixed:=by kernel_rfl
 f187:=Tryz.func93.trans (congrArg some (by kernel_rfl))
 f255:=Tryz.func128.trans (congrArg some (by kernel_rfl))
 t3:=Tryz.underlying3
 a3:=Tryz.isAgg3
 z3:=Tryz.sizeOf3
 v3:=Tryz.zeroValue3
 t5:=Tryz.underlying5
 a5:=Tryz.isAgg5
 z5:=Tryz.sizeOf5
 v5:=Tryz.zeroValue5
 t37:=Tryz.underlying22
 a37:=Tryz.isAgg22
 z37:=Tryz.sizeOf22
 v37:=Tryz.zeroValue22}
end Go.Proofs
open Go.RowKit Go.Proofs
def ax(J:Nat->Act->World->Prop)(Q:Exit->Act->World->Prop):Exit->Act->World->Prop
 |.goto l,a,w=>J l a w
 |e,a,w=>Q e a w
theorem OC{P:Program}{a:Act}{w:World}{Q:Exit->Act->World->Prop}{c:Code}(rest:Nat->Code)(J:Nat->Act->World->Prop)(μ:Nat->Act->World->Nat)(hf:∀l a w,J l a w->findLabel c l=some (rest l))
 (first:c.wp P (ax J Q) a w)
 (pass:∀l a w,J l a w->(rest l).wp P (ax (fun l' a' w'=>J l' a' w'/\μ l' a' w'<μ l a w) Q) a w):(Code.scope c).wp P Q a w:=by
 intro b k cs;have hg:∀l a w,J l a w->gotoIn l (.inScope c::k)=some (.code (rest l)::.inScope c::k):=fun l a w h=>by simp[gotoIn,hf l a w h]
 have key:∀n l a w,μ l a w=n->J l a w->∃e a' w',Q e a' w'/\Arrives P (lone (b.at a (.code (rest l)::.inScope c::k)) cs w) b k cs e a' w':=by
  intro n;induction n using Nat.strongRecOn with
  |_ n ih=>
   intro l a w hn hJ;obtain⟨e,a₁,w₁,hq,harr⟩:=pass l a w hJ b (.inScope c::k) cs;cases e with
   |normal=>exact⟨.normal,a₁,w₁,hq,Steps.trans harr (.one step_inScope)⟩
   |exit id=>exact⟨.exit id,a₁,w₁,hq,fun k' hk=>harr k' (by simp[exitTo,hk])⟩
   |goto l'=>
    obtain⟨hJ',hlt⟩:=hq;obtain⟨e₂,a₂,w₂,hq₂,harr₂⟩:=ih _ (by omega) l' a₁ w₁ rfl hJ';exact⟨e₂,a₂,w₂,hq₂,.of_steps (harr _ (hg l' a₁ w₁ hJ')) harr₂⟩
   |ret=>exact⟨_,a₁,w₁,hq,harr⟩
   |panic ch=>exact⟨_,a₁,w₁,hq,harr⟩
   |outgrown=>exact⟨_,a₁,w₁,hq,harr⟩
 obtain⟨e,a₁,w₁,hq,harr⟩:=first b (.inScope c::k) cs
 cases e with
 |normal=>exact⟨.normal,a₁,w₁,hq,.head step_scope (Steps.trans harr (.one step_inScope))⟩
 |exit id=>exact⟨.exit id,a₁,w₁,hq,fun k' hk=>.head step_scope (harr k' (by simp[exitTo,hk]))⟩
 |goto l'=>
  obtain⟨e₂,a₂,w₂,hq₂,harr₂⟩:=key _ l' a₁ w₁ rfl hq;exact⟨e₂,a₂,w₂,hq₂,.of_steps (.head step_scope (harr _ (hg l' a₁ w₁ hq))) harr₂⟩
 |ret=>exact⟨_,a₁,w₁,hq,.of_steps (.one step_scope) harr⟩
 |panic ch=>exact⟨_,a₁,w₁,hq,.of_steps (.one step_scope) harr⟩
 |outgrown=>exact⟨_,a₁,w₁,hq,.of_steps (.one step_scope) harr⟩
theorem OP:∀l:List UInt8,Lib.indexByte l 10=if pre CY l=l.length then -1 else(pre CY l:Int)
 |[]=>rfl
 |c::l=>by
  have ih:=OP l;have hle:=Fq CY l;show(if c==10 then 0 else if Lib.indexByte l 10== -1 then -1 else Lib.indexByte l 10+1)=if(if CY c=true then pre CY l+1 else 0)=l.length+1 then -1 else(((if CY c=true then pre CY l+1 else 0:Nat)):Int)
  by_cases hc:c=10
  ·subst hc
   have e:CY 10=false:=by decide
   rw[e];simp
  ·have e:CY c=true:=by
    unfold CY;simp only[ne_eq,decide_eq_true_eq];intro h;exact hc (UInt8.toNat_inj.1 h)
   have e1:(c==10)=false:=by simpa using hc
   rw[e,e1,ih];by_cases hp:pre CY l=l.length
   ·simp[hp]
   ·have h1:¬((pre CY l:Int)= -1):=by omega
    simp[hp,h1]
end Go.Proofs.YtfpeecaaleijcaaGreatDoor
namespace Go.Proofs.YtfpeecaaleijcaaGreatDoor
open Go.RowKit
variable {a:Act}{Q:Exit->Act->World->Prop}{p:Nat}{P:Program}{v w:World}
def Ve(r:Row):List Value:=[.bool r.1,Vi r.2.op,Vi r.2.d,Vi r.2.a,Vi r.2.b,Vi r.2.imm,Vi r.2.h]
def Ws(lo:Option Row):Array Value:=(Ve (lo.getD (false,JB))).toArray
def dH:Prop:=∀(sb nb ob mf:Nat)(d:Int)(b o cap:Nat)(l:List UInt8)(w:World),SC w sb nb ob mf d->Fe w ob->(d=0∨d=1)->(l.length:Int)<=1048576->l.length<=cap->At w b o l.length (EG .u8 (bF l))->
 Calls Tryz.prog 92 #[Vq sb,.slice (some ⟨b,o,none⟩) l.length cap] w fun e w'=>e=.returned (.agg (Ws (Da d l)))/\Below w.heap.size w w'
def Lp(b o:Nat)(c:UInt8):Value:=if c=68 then .pointer (some ⟨b,o+1,none⟩)else if c=65 then .pointer (some ⟨b,o+2,none⟩)else if c=66 then .pointer (some ⟨b,o+3,none⟩)else if c=73 then .pointer (some ⟨b,o+4,none⟩)else if c=78 then .pointer (some ⟨b,o+4,none⟩)else if c=72 then .pointer (some ⟨b,o+5,none⟩)else .pointer none
theorem UX(b o:Nat)(c:UInt8)(w:World):
 Calls Tryz.prog 110 #[.pointer (some ⟨b,o,none⟩),.int .u8 (c.toNat:Int)] w fun e w'=>e=.returned (Lp b o c)/\w'=w:=by
 by_cases e68:c=68
 ·subst e68
  go_enter Tryz.func110,Tryz.ntmps110;go_wp2;go_ret;exact⟨rfl,rfl⟩
 have f68:((c.toNat:Int)==68)=false:=by rw[beq_eq_false_iff_ne];intro x;exact e68 (UInt8.toNat_inj.1 (show c.toNat=68 by omega))
 by_cases e65:c=65
 ·subst e65
  go_enter Tryz.func110,Tryz.ntmps110;go_wp2;go_ret;exact⟨rfl,rfl⟩
 have f65:((c.toNat:Int)==65)=false:=by rw[beq_eq_false_iff_ne];intro x;exact e65 (UInt8.toNat_inj.1 (show c.toNat=65 by omega))
 by_cases e66:c=66
 ·subst e66
  go_enter Tryz.func110,Tryz.ntmps110;go_wp2;go_ret;exact⟨rfl,rfl⟩
 have f66:((c.toNat:Int)==66)=false:=by rw[beq_eq_false_iff_ne];intro x;exact e66 (UInt8.toNat_inj.1 (show c.toNat=66 by omega))
 by_cases e73:c=73
 ·subst e73
  go_enter Tryz.func110,Tryz.ntmps110;go_wp2;go_ret;exact⟨rfl,rfl⟩
 have f73:((c.toNat:Int)==73)=false:=by rw[beq_eq_false_iff_ne];intro x;exact e73 (UInt8.toNat_inj.1 (show c.toNat=73 by omega))
 by_cases e78:c=78
 ·subst e78
  go_enter Tryz.func110,Tryz.ntmps110;go_wp2;go_ret;exact⟨rfl,rfl⟩
 have f78:((c.toNat:Int)==78)=false:=by rw[beq_eq_false_iff_ne];intro x;exact e78 (UInt8.toNat_inj.1 (show c.toNat=78 by omega))
 by_cases e72:c=72
 ·subst e72
  go_enter Tryz.func110,Tryz.ntmps110;go_wp2;go_ret;exact⟨rfl,rfl⟩
 have f72:((c.toNat:Int)==72)=false:=by rw[beq_eq_false_iff_ne];intro x;exact e72 (UInt8.toNat_inj.1 (show c.toNat=72 by omega))
 rw[Lp,if_neg e68,if_neg e65,if_neg e66,if_neg e73,if_neg e78,if_neg e72];clear e68 e65 e66 e73 e78 e72;go_enter Tryz.func110,Tryz.ntmps110;go_wp2;go_ret;exact⟨rfl,rfl⟩
def fin(lb:Bool)(r:Option NV):Option Row:=match r with|some y=>if lb=true∨Hq y=true then some (lb,y)else none|none=>none
structure Gp(w:World)(p q:Nat)(lb:Bool)(x:NV)(v:World):Prop where
 bel:Below w.heap.size w v
 P:v.heap[p]?=some (.cells (Ws none) 182)
 X:v.heap[q]?=some (.cells (Ve (lb,x)).toArray 182)
theorem Gp.below{v':World}{q:Nat}{lb:Bool}{x:NV}(h:Gp w p q lb x v)(hb:Below v.heap.size v v'):Gp w p q lb x v':=
 ⟨h.bel.trans (hb.mono h.bel.size),(hb.block p (jH.1 h.P).1).trans h.P,(hb.block q (jH.1 h.X).1).trans h.X⟩
theorem Gp.put{q j:Nat}{lb lb':Bool}{x y:NV}{val:Value}(h:Gp w p q lb x v)(hq:w.heap.size<=q)(hne:p≠q)(hy:(Ve (lb,x)).toArray.setIfInBounds j val=(Ve (lb',y)).toArray):Gp w p q lb' y (v.setCell (Va q j) val):=
 ⟨h.bel.setCell hq _,Yh h.P hne _ _,by rw[Ho h.X,hy]⟩
structure LT(w:World)(b o cap:Nat)(l:List UInt8):Prop where
 A:At w b o l.length (EG .u8 (bF l))
 c:l.length<=cap
 n:(l.length:Int)<=1048576
theorem LT.drop{b o cap:Nat}{l:List UInt8}(h:LT w b o cap l)(k o':Nat)(hk:k<=l.length)(ho:o'=o+k∨l.length-k=0):LT w b o' (cap-k) (l.drop k):=by
 have hc:=h.c;have hn:=h.n;refine⟨?_,by rw[List.length_drop];omega,by rw[List.length_drop];omega⟩;rcases ho with rfl|h0
 ·exact VR h.A k hk
 ·rw[List.length_drop,h0]
  exact⟨h.A.1,fun i hi=>absurd hi (Nat.not_lt_zero _)⟩
structure ZN(a:Act)(v4 v5 v6 v7 v9 v10:Value):Prop where
 d:a.defers=[]
 n:a.tmps.size=127
 h4:a.tmps[4]?=some v4
 h5:a.tmps[5]?=some v5
 h6:a.tmps[6]?=some v6
 h7:a.tmps[7]?=some v7
 h9:a.tmps[9]?=some v9
 h10:a.tmps[10]?=some v10
theorem ZN.open{v4 v5 v6 v7 v9 v10:Value}(h:ZN a v4 v5 v6 v7 v9 v10):∃u:Nat->Value,a=⟨#[u 0,u 1,u 2,u 3,v4,v5,v6,v7,u 8,v9,v10,u 11,u 12,u 13,u 14,u 15,u 16,u 17,u 18,u 19,u 20,u 21,u 22,u 23,u 24,u 25,u 26,u 27,u 28,u 29,u 30,u 31,u 32,u 33,u 34,u 35,u 36,u 37,u 38,u 39,u 40,u 41,u 42,u 43,u 44,u 45,u 46,u 47,u 48,u 49,u 50,u 51,u 52,u 53,u 54,u 55,u 56,u 57,u 58,u 59,u 60,u 61,u 62,u 63,u 64,u 65,u 66,u 67,u 68,u 69,u 70,u 71,u 72,u 73,u 74,u 75,u 76,u 77,u 78,u 79,u 80,u 81,u 82,u 83,u 84,u 85,u 86,u 87,u 88,u 89,u 90,u 91,u 92,u 93,u 94,u 95,u 96,u 97,u 98,u 99,u 100,u 101,u 102,u 103,u 104,u 105,u 106,u 107,u 108,u 109,u 110,u 111,u 112,u 113,u 114,u 115,u 116,u 117,u 118,u 119,u 120,u 121,u 122,u 123,u 124,u 125,u 126],[]⟩:=by
 obtain⟨⟨xs⟩,ds⟩:=a;obtain⟨hd,hn,h4,h5,h6,h7,h9,h10⟩:=h;simp only at hd hn h4 h5 h6 h7 h9 h10;subst hd;refine⟨fun i=>xs.getD i undef,?_⟩;have key:xs=(List.range 127).map fun i=>if i=4 then v4 else if i=5 then v5 else if i=6 then v6 else if i=7 then v7 else if i=9 then v9 else if i=10 then v10 else xs.getD i undef:=by
  refine List.ext_getElem? fun i=>?_
  have hl:xs.length=127:=hn;by_cases hi:i<127
  ·rw[List.getElem?_map,List.getElem?_range hi]
   simp only[Option.map_some];simp only[List.getElem?_toArray]at h4 h5 h6 h7 h9 h10;by_cases e4:i=4
   ·subst e4;rw[if_pos rfl];exact h4
   by_cases e5:i=5
   ·subst e5;rw[if_neg e4,if_pos rfl];exact h5
   by_cases e6:i=6
   ·subst e6;rw[if_neg e4,if_neg e5,if_pos rfl];exact h6
   by_cases e7:i=7
   ·subst e7;rw[if_neg e4,if_neg e5,if_neg e6,if_pos rfl];exact h7
   by_cases e9:i=9
   ·subst e9;rw[if_neg e4,if_neg e5,if_neg e6,if_neg e7,if_pos rfl];exact h9
   by_cases e10:i=10
   ·subst e10;rw[if_neg e4,if_neg e5,if_neg e6,if_neg e7,if_neg e9,if_pos rfl];exact h10
   rw[if_neg e4,if_neg e5,if_neg e6,if_neg e7,if_neg e9,if_neg e10,jJ,List.getElem?_eq_getElem (by omega)];rfl
  ·rw[List.getElem?_eq_none (by omega),List.getElem?_eq_none (by simp;omega)]
 have e2:(⟨⟨xs⟩,[]⟩:Act)=⟨⟨(List.range 127).map fun i=>if i=4 then v4 else if i=5 then v5 else if i=6 then v6 else if i=7 then v7 else if i=9 then v9 else if i=10 then v10 else xs.getD i undef⟩,[]⟩:=by rw[<-key]
 rw[e2];rfl
def UD(f:Func):Code:=match f.body with|some (.seq _ (.scope c))=>c|_=>.skip
def ZO(f:Func)(l:Nat):Code:=(findLabel (UD f) l).getD .skip
theorem Gz{l:Nat}{c:Code}(h:findLabel (UD Tryz.f92) l=some c)(hw:c.wp P Q a w):(ZO Tryz.f92 l).wp P Q a w:=by
 unfold ZO;rw[h];exact hw
def LJ(w:World)(p q b:Nat)(tot:Option Row):Nat->Act->World->Prop
 |0,a,v=>∃(v6 v7:Value)(lb:Bool)(x:NV)(o' cap':Nat)(l':List UInt8)(s:ByteArray),ZN a (Vq p) (Vq q) v6 v7 (.slice (some ⟨b,o',none⟩) l'.length cap') (.string s)/\LT w b o' cap' l'/\Gp w p q lb x v/\(∀c∈s.data.toList,c≠64)/\fin lb (fit s.data.toList l' x)=tot/\(s.size:Int)<=100
 |1,a,v=>∃(v6 v7 v9 v10:Value)(lb:Bool)(x:NV),ZN a (Vq p) (Vq q) v6 v7 v9 v10/\Gp w p q lb x v/\tot=none
 |2,a,v=>∃(v6 v7 v10:Value)(lb:Bool)(x:NV)(o' cap':Nat)(l':List UInt8),ZN a (Vq p) (Vq q) v6 v7 (.slice (some ⟨b,o',none⟩) l'.length cap') v10/\LT w b o' cap' l'/\Gp w p q lb x v/\fin lb (fit [] l' x)=tot
 |3,a,v=>∃(v6:Value)(c:UInt8)(lb:Bool)(x:NV)(o' cap':Nat)(l':List UInt8)(s:ByteArray),ZN a (Vq p) (Vq q) v6 (.int .u8 (c.toNat:Int)) (.slice (some ⟨b,o',none⟩) l'.length cap') (.string s)/\LT w b o' cap' l'/\Gp w p q lb x v/\(∀c∈s.data.toList,c≠64)/\Er c=false/\fin lb (fit (c::s.data.toList) l' x)=tot/\(s.size:Int)<=100
 |4,a,v=>∃(v7:Value)(lb:Bool)(x:NV)(o' cap':Nat)(l':List UInt8)(s:ByteArray),ZN a (Vq p) (Vq q) (.pointer (some ⟨q,5,none⟩)) v7 (.slice (some ⟨b,o',none⟩) l'.length cap') (.string s)/\LT w b o' cap' l'/\Gp w p q lb x v/\(∀c∈s.data.toList,c≠64)/\l'.head?=some 45/\fin lb (fit (73::s.data.toList) l' x)=tot/\(s.size:Int)<=100
 |_,_,_=>False
def lw:Nat->Nat
 |0=>5
 |1=>1
 |2=>2
 |_=>8
def iX:Value->Nat
 |.string s=>s.size
 |_=>0
def MF(l:Nat)(a:Act)(_:World):Nat:=iX (a.tmps.getD 10 undef)*10+lw l
theorem YV{cs:Array Value}{t:TypeId}(h:v.heap[p]?=some (.cells cs t))(hp:w.heap.size<=p)(hb:Below w.heap.size w v)(hc:cs.size=7)(x0 x1 x2 x3 x4 x5 x6:Value):
 (((((((v.setCell (Va p 0) x0).setCell (Va p 1) x1).setCell (Va p 2) x2).setCell (Va p 3) x3).setCell (Va p 4) x4).setCell (Va p 5) x5).setCell (Va p 6) x6).heap[p]?=some (.cells #[x0,x1,x2,x3,x4,x5,x6] t)/\
 Below w.heap.size w (((((((v.setCell (Va p 0) x0).setCell (Va p 1) x1).setCell (Va p 2) x2).setCell (Va p 3) x3).setCell (Va p 4) x4).setCell (Va p 5) x5).setCell (Va p 6) x6):=by
 obtain⟨xs⟩:=cs;obtain⟨y0,y1,y2,y3,y4,y5,y6,rfl⟩:∃y0 y1 y2 y3 y4 y5 y6,xs=[y0,y1,y2,y3,y4,y5,y6]:=by
  have hc:xs.length=7:=hc;match xs,hc with
  |[y0,y1,y2,y3,y4,y5,y6],_=>exact⟨y0,y1,y2,y3,y4,y5,y6,rfl⟩
 refine⟨?_,((((((hb.setCell hp _).setCell hp _).setCell hp _).setCell hp _).setCell hp _).setCell hp _).setCell hp _⟩;rw[Ho (Ho (Ho (Ho (Ho (Ho (Ho h 0 x0) 1 x1) 2 x2) 3 x3) 4 x4) 5 x5) 6 x6];rfl
theorem fq(w:World)(p q b:Nat)(tot:Option Row)(K:Exit->Act->World->Prop)(hp:w.heap.size<=p)(hQ:∀(a:Act)(v':World)v5 v6 v7 v9 v10,ZN a (Vq p) v5 v6 v7 v9 v10->v'.heap[p]?=some (.cells (Ws tot) 182)->Below w.heap.size w v'->K .ret a v')(a:Act)(v:World)(h:LJ w p q b tot 1 a v):
 (ZO Tryz.f92 1).wp Tryz.prog K a v:=by
 obtain⟨v6,v7,v9,v10,lb,x,hF,hX,ht⟩:=h;have HX:=hxy hX;have HQ:=hxy hQ;have HT:=hxy ht;have p0:=AV hX.P 0;have p1:=AV hX.P 1;have p2:=AV hX.P 2;have p3:=AV hX.P 3;have p4:=AV hX.P 4;have p5:=AV hX.P 5;have p6:=AV hX.P 6;have pf:=EY hX.P;simp only[Ws,Ve,JB,Option.getD_none,List.getElem?_toArray,List.getElem?_cons_zero,List.getElem?_cons_succ]at p0 p1 p2 p3 p4 p5 p6;clear hX hQ ht;obtain⟨u,rfl⟩:=hF.open;clear hF;refine Gz (l:=1) (c:=?cc) ?hh ?ww
 case hh=>unfold UD Tryz.f92;dsimp only;exact rfl
 go_wp2_with fail;have h7:=YV HX.out.P hp HX.out.bel rfl (.bool false) (Vi 0) (Vi 0) (Vi 0) (Vi 0) (Vi 0) (Vi 0);exact HQ.out _ _ _ _ _ _ _ ⟨rfl,rfl,rfl,rfl,rfl,rfl,rfl,rfl⟩ (by rw[HT.out];exact h7.1) h7.2
theorem gJ(w:World)(p q b:Nat)(tot:Option Row)(K:Exit->Act->World->Prop)(a:Act)(v:World)(h:LJ w p q b tot 3 a v)(hK:∀l' a' v',LJ w p q b tot l' a' v'->MF l' a' v'<MF 3 a v->K (.goto l') a' v'):
 (ZO Tryz.f92 3).wp Tryz.prog K a v:=by
 obtain⟨v6,c,lb,x,o',cap',l',s,hF,hT,hX,h64,hfd,hfit,hsz⟩:=h;have HX:=hxy hX;have HT:=hxy hT;have H64:=hxy h64;rw[ET c _ _ _ hfd]at hfit;have HB:=hxy hX.bel;have HK:Hid (∀l' a' v',LJ w p q b tot l' a' v'->MF l' a' v'<s.size*10+8->K (.goto l') a' v'):=(by
  intro l' a' v' h1 h2;refine hK l' a' v' h1 ?_;have e:MF 3 a v=s.size*10+8:=by
   unfold MF;rw[Array.getD_eq_getD_getElem?,hF.h10];rfl
  rw[e];exact h2:∀l' a' v',LJ w p q b tot l' a' v'->MF l' a' v'<s.size*10+8->K (.goto l') a' v')
 clear hX hT h64 hfd hK;obtain⟨u,rfl⟩:=hF.open;clear hF;refine Gz (l:=3) (c:=?cc) ?hh ?ww
 case hh=>unfold UD Tryz.f92;dsimp only;exact rfl
 cases l' with
 |nil=>
  have HR:=hxy ((hfit.symm:tot=none));clear hfit;go_wp2_with fail;go_step3;refine HK.out 1 _ _ ⟨_,_,_,_,_,_,⟨rfl,rfl,rfl,rfl,rfl,rfl,rfl,rfl⟩,HX.out,HR.out⟩ ?_;show s.size*10+1<s.size*10+8;omega
 |cons r l''=>
  have hl0:(((l''.length:Int)+1)==0)=false:=by rw[beq_eq_false_iff_ne];omega
  have hl1:(0:Int)<(l''.length:Int)+1:=by omega
  have g0:v.cell? (Va b o')=some (.int .u8 (r.toNat:Int)):=by
   have:=GY HT.out.A (k:=0) (by simp);exact(HB.out.cell (p:=Va b o') HT.out.A.1).trans this
  by_cases hrc:r=c
  ·have hne:((r.toNat:Int) !=(c.toNat:Int))=false:=by rw[hrc];simp
   have HR:Hid (fin lb (fit s.data.toList l'' x)=tot):=(by rw[<-hfit];simp only[hrc,if_true]:fin lb (fit s.data.toList l'' x)=tot)
   clear hfit hrc;have hcl:=HT.out.c;have HCL:Hid (l''.length+1<=cap'):=hcl;by_cases hc1:cap'=1
   ·subst hc1
    clear hcl;go_wp2_with fail;go_step3;have hz:l''.length+1-1=0:=by have:=HCL.out;omega
    refine HK.out 0 _ _ ⟨_,_,lb,x,_,_,l'',s,⟨rfl,rfl,rfl,rfl,rfl,rfl,rfl,rfl⟩,HT.out.drop 1 o' (by simp) (.inr hz),HX.out,H64.out,HR.out,hsz⟩ ?_;show s.size*10+5<s.size*10+8;omega
   ·clear hcl
    go_wp2_with fail;go_step3;refine HK.out 0 _ _ ⟨_,_,lb,x,_,_,l'',s,⟨rfl,rfl,rfl,rfl,rfl,rfl,rfl,rfl⟩,HT.out.drop 1 (o'+1) (by simp) (.inl rfl),HX.out,H64.out,HR.out,hsz⟩ ?_;show s.size*10+5<s.size*10+8;omega
  ·have hne:((r.toNat:Int) !=(c.toNat:Int))=true:=by
    rw[bne_iff_ne];intro e;exact hrc (UInt8.toNat_inj.1 (by omega))
   have HR:Hid (tot=none):=(by rw[<-hfit];simp only[hrc,if_false];rfl:tot=none)
   clear hfit hrc;go_wp2_with fail;go_step3;refine HK.out 1 _ _ ⟨_,_,_,_,_,_,⟨rfl,rfl,rfl,rfl,rfl,rfl,rfl,rfl⟩,HX.out,HR.out⟩ ?_;show s.size*10+1<s.size*10+8;omega
theorem fO(w:World)(p q b:Nat)(tot:Option Row)(K:Exit->Act->World->Prop)(hp:w.heap.size<=p)(hpq:p≠q)(hQ:∀(a:Act)(v':World)v5 v6 v7 v9 v10,ZN a (Vq p) v5 v6 v7 v9 v10->v'.heap[p]?=some (.cells (Ws tot) 182)->Below w.heap.size w v'->K .ret a v')(a:Act)(v:World)(h:LJ w p q b tot 2 a v):
 (ZO Tryz.f92 2).wp Tryz.prog K a v:=by
 obtain⟨v6,v7,v10,lb,x,o',cap',l',hF,hT,hX,ht⟩:=h;have HX:=hxy hX;have HQ:=hxy hQ;have hqp:q≠p:=fun e=>hpq e.symm
 have p0:=AV hX.P 0;have p1:=AV hX.P 1;have p2:=AV hX.P 2;have p3:=AV hX.P 3;have p4:=AV hX.P 4;have p5:=AV hX.P 5;have p6:=AV hX.P 6;have pf:=EY hX.P;have q0:=AV hX.X 0;have q1:=AV hX.X 1;have q2:=AV hX.X 2;have q3:=AV hX.X 3;have q4:=AV hX.X 4;have q5:=AV hX.X 5;have q6:=AV hX.X 6;have qf:=EY hX.X;simp only[Ws,Ve,JB,Option.getD_none,List.getElem?_toArray,List.getElem?_cons_zero,List.getElem?_cons_succ]at p0 p1 p2 p3 p4 p5 p6 q0 q1 q2 q3 q4 q5 q6;clear hX hQ hT;obtain⟨u,rfl⟩:=hF.open;clear hF;refine Gz (l:=2) (c:=?cc) ?hh ?ww
 case hh=>unfold UD Tryz.f92;dsimp only;exact rfl
 cases l' with
 |cons r l''=>
  have HR:=hxy ((ht.symm:tot=none));clear ht;have hl0:(((l''.length:Int)+1)==0)=false:=by rw[beq_eq_false_iff_ne];omega
  go_wp2_with fail;go_step3;go_wp2_with fail;have h7:=YV HX.out.P hp HX.out.bel rfl (.bool false) (Vi 0) (Vi 0) (Vi 0) (Vi 0) (Vi 0) (Vi 0);exact HQ.out _ _ _ _ _ _ _ ⟨rfl,rfl,rfl,rfl,rfl,rfl,rfl,rfl⟩ (by rw[HR.out];exact h7.1) h7.2
 |nil=>
  cases lb with
  |true=>
   have HR:=hxy ((ht.symm:tot=some (true,x)));clear ht;go_wp2_with fail;have h7:=YV HX.out.P hp HX.out.bel rfl (.bool true) (Vi x.op) (Vi x.d) (Vi x.a) (Vi x.b) (Vi x.imm) (Vi x.h);exact HQ.out _ _ _ _ _ _ _ ⟨rfl,rfl,rfl,rfl,rfl,rfl,rfl,rfl⟩ (by rw[HR.out];exact h7.1) h7.2
  |false=>
   have HR0:Hid (tot=if Hq x=true then some (false,x)else none):=(by
    rw[<-ht];show(if false=true∨Hq x=true then some (false,x)else none)=_;simp:tot=if Hq x=true then some (false,x)else none)
   clear ht;go_wp2_with fail;refine(QU x v).mono ?_;rintro e w2⟨rfl,hb2⟩;have HX2:=hxy (HX.out.below hb2);have hX:=HX2.out;clear hb2 p0 p1 p2 p3 p4 p5 p6 q0 q1 q2 q3 q4 q5 q6 pf qf;have p0:=AV hX.P 0;have p1:=AV hX.P 1;have p2:=AV hX.P 2;have p3:=AV hX.P 3;have p4:=AV hX.P 4;have p5:=AV hX.P 5;have p6:=AV hX.P 6;have pf:=EY hX.P;have q0:=AV hX.X 0;have q1:=AV hX.X 1;have q2:=AV hX.X 2;have q3:=AV hX.X 3;have q4:=AV hX.X 4;have q5:=AV hX.X 5;have q6:=AV hX.X 6;have qf:=EY hX.X;simp only[Ws,Ve,JB,Option.getD_none,List.getElem?_toArray,List.getElem?_cons_zero,List.getElem?_cons_succ]at p0 p1 p2 p3 p4 p5 p6 q0 q1 q2 q3 q4 q5 q6;clear hX;obtain⟨cs,hcs⟩:=Ae (Hq x);have HCS:=hxy hcs;rw[hcs];clear hcs;cases cs with
   |true=>
    have HR:Hid (tot=some (false,x)):=(by rw[HR0.out,if_pos HCS.out]:tot=some (false,x))
    go_wp2_with fail;have h7:=YV HX2.out.P hp HX2.out.bel rfl (.bool false) (Vi x.op) (Vi x.d) (Vi x.a) (Vi x.b) (Vi x.imm) (Vi x.h);exact HQ.out _ _ _ _ _ _ _ ⟨rfl,rfl,rfl,rfl,rfl,rfl,rfl,rfl⟩ (by rw[HR.out];exact h7.1) h7.2
   |false=>
    have HR:Hid (tot=none):=(by rw[HR0.out,if_neg (by rw[HCS.out];simp)]:tot=none)
    go_wp2_with fail;go_step3;go_wp2_with fail;have h7:=YV HX2.out.P hp HX2.out.bel rfl (.bool false) (Vi 0) (Vi 0) (Vi 0) (Vi 0) (Vi 0) (Vi 0);exact HQ.out _ _ _ _ _ _ _ ⟨rfl,rfl,rfl,rfl,rfl,rfl,rfl,rfl⟩ (by rw[HR.out];exact h7.1) h7.2
def dx(w:World)(p q b:Nat)(lb:Bool)(x:NV)(c:UInt8)(cap:Nat)(l:List UInt8)(v9 v8:Value)(wx:World):Prop:=
 match DT l with
 |some (vv,n)=>∃o3,v9=.slice (some ⟨b,o3,none⟩) (l.drop n).length (cap-n)/\v8=.bool true/\LT w b o3 (cap-n) (l.drop n)/\Gp w p q lb (setF x c vv) wx
 |none=>v8=.bool false/\Gp w p q lb (setF x c 0) wx
theorem fQ(w:World)(p q b:Nat)(tot:Option Row)(K:Exit->Act->World->Prop)(hq:w.heap.size<=q)(hpq:p≠q)(a:Act)(v:World)(h:LJ w p q b tot 4 a v)(hK:∀l' a' v',LJ w p q b tot l' a' v'->MF l' a' v'<MF 4 a v->K (.goto l') a' v'):
 (ZO Tryz.f92 4).wp Tryz.prog K a v:=by
 obtain⟨v7,lb,x,o',cap',l',s,hF,hT,hX,h64,hhd,hfit,hsz⟩:=h;have HX:=hxy hX;have HT:Hid (LT w b o' cap' l'):=hT;have H64:=hxy h64;have HB:=hxy hX.bel;have HPQ:=hxy hpq;have HK:Hid (∀l' a' v',LJ w p q b tot l' a' v'->MF l' a' v'<s.size*10+8->K (.goto l') a' v'):=(by
  intro l' a' v' h1 h2;refine hK l' a' v' h1 ?_;have e:MF 4 a v=s.size*10+8:=by
   unfold MF;rw[Array.getD_eq_getD_getElem?,hF.h10];rfl
  rw[e];exact h2:∀l' a' v',LJ w p q b tot l' a' v'->MF l' a' v'<s.size*10+8->K (.goto l') a' v')
 clear hX hT h64 hK hpq;obtain⟨u,rfl⟩:=hF.open;clear hF;refine Gz (l:=4) (c:=?cc) ?hh ?ww
 case hh=>unfold UD Tryz.f92;dsimp only;exact rfl
 obtain⟨l'',rfl⟩:∃l'',l'=45::l'':=by
  cases l' with
  |nil=>cases hhd
  |cons r l''=>exact⟨l'',by simpa using hhd⟩
 have HF:Hid (fin lb (match DT l'' with|some (vv,n)=>if vv=0 then none else fit s.data.toList (l''.drop n) (setF x 73 (-vv))|none=>none)=tot):=(by
  rw[<-hfit];show _=fin lb (if Er 73=true then(match MO ((73:UInt8)==73) (45::l'')with|some (vv,n)=>fit s.data.toList ((45::l'').drop n) (setF x 73 vv)|none=>none)else _);rw[if_pos (show Er 73=true from rfl)];have e:MO ((73:UInt8)==73) (45::l'')=match DT l'' with|some (vv,n)=>if vv=0 then none else some (-vv,n+1)|none=>none:=by
   unfold MO;rw[if_pos ⟨rfl,rfl⟩];rfl
  rw[e];rcases DT l'' with _|⟨vv,n⟩
  ·rfl
  ·simp only
   split
   ·rfl
   ·rfl:fin lb (match DT l'' with|some (vv,n)=>if vv=0 then none else fit s.data.toList (l''.drop n) (setF x 73 (-vv))|none=>none)=tot)
 have HCL:Hid (l''.length+1<=cap'):=HT.out.c;clear hfit hhd;have hl1:(1:Int)<=(l''.length:Int)+1:=by omega
 have hl2:(1:Int)<=cap':=by have:=HCL.out;omega
 go_upto_region 18 with fail;go_cut [9,6,8]from 78 to 86(fun v9 v6 v8 wx=>v6=.pointer (some ⟨q,5,none⟩)/\dx w p q b lb x 73 (cap'-1) l'' v9 v8 wx)
 case first=>
  by_cases h1:cap'=1
  ·subst h1
   have HT2:Hid (LT w b o' (1-1) l''):=HT.out.drop 1 o' (by simp) (.inr (by have:=HCL.out;show l''.length+1-1=0;omega));go_wp2_with fail;refine(FR b o' (1-1) l'' v HT2.out.n HT2.out.c (HT2.out.A.below HB.out HT2.out.A.1)).mono ?_;rintro e w2⟨hr,hb2⟩;have HX2:=hxy (HX.out.below hb2);have q5:w2.cell? (Va q 5)=some (Vi x.imm):=AV HX2.out.X 5;have qf:w2.frozen? (Va q 5)=false:=EY HX2.out.X 5;clear hb2 HX HB;rcases hn:DT l'' with _|⟨vv,n⟩
   ·rw[hn]at hr
    have hr:e=.returned (.tuple #[Vi 0,_,.bool false]):=hr;subst hr;have HN:=hxy hn;clear hn;go_wp2_with fail;go_meet;refine⟨rfl,?_⟩;unfold dx;rw[HN.out];exact⟨rfl,HX2.out.put hq HPQ.out rfl⟩
   ·rw[hn]at hr
    obtain⟨o3,rfl,ho3⟩:=hr;have HO3:=hxy ho3;have HN:=hxy hn;clear hn ho3;go_wp2_with fail;go_meet;refine⟨rfl,?_⟩;unfold dx;rw[HN.out];exact⟨o3,by simp[List.length_drop],rfl,HT2.out.drop n o3 (IY HN.out).2.2.2.2.1 HO3.out,HX2.out.put hq HPQ.out rfl⟩
  ·have HT2:Hid (LT w b (o'+1) (cap'-1) l''):=HT.out.drop 1 (o'+1) (by simp) (.inl rfl)
   go_wp2_with fail;refine(FR b (o'+1) (cap'-1) l'' v HT2.out.n HT2.out.c (HT2.out.A.below HB.out HT2.out.A.1)).mono ?_;rintro e w2⟨hr,hb2⟩;have HX2:=hxy (HX.out.below hb2);have q5:w2.cell? (Va q 5)=some (Vi x.imm):=AV HX2.out.X 5;have qf:w2.frozen? (Va q 5)=false:=EY HX2.out.X 5;clear hb2 HX HB;rcases hn:DT l'' with _|⟨vv,n⟩
   ·rw[hn]at hr
    have hr:e=.returned (.tuple #[Vi 0,_,.bool false]):=hr;subst hr;have HN:=hxy hn;clear hn;go_wp2_with fail;go_meet;refine⟨rfl,?_⟩;unfold dx;rw[HN.out];exact⟨rfl,HX2.out.put hq HPQ.out rfl⟩
   ·rw[hn]at hr
    obtain⟨o3,rfl,ho3⟩:=hr;have HO3:=hxy ho3;have HN:=hxy hn;clear hn ho3;go_wp2_with fail;go_meet;refine⟨rfl,?_⟩;unfold dx;rw[HN.out];exact⟨o3,by simp[List.length_drop],rfl,HT2.out.drop n o3 (IY HN.out).2.2.2.2.1 HO3.out,HX2.out.put hq HPQ.out rfl⟩
 case rest=>
  obtain⟨rfl,htk⟩:=hcut;clear HX HB;unfold dx at htk;rcases hn:DT l'' with _|⟨vv,n⟩
  ·rw[hn]at htk
   obtain⟨rfl,hX⟩:=htk;have HX:=hxy hX;have HR:Hid (tot=none):=(by rw[<-HF.out,hn];rfl:tot=none)
   clear hX hn;go_wp2_with fail;go_step3;refine HK.out 1 _ _ ⟨_,_,_,_,_,_,⟨rfl,rfl,rfl,rfl,rfl,rfl,rfl,rfl⟩,HX.out,HR.out⟩ ?_;show s.size*10+1<s.size*10+8;omega
  ·rw[hn]at htk
   obtain⟨o3,rfl,rfl,hT3,hX⟩:=htk;have HX:=hxy hX;have HT3:=hxy hT3;have hvb:=IY hn;have hv1:0<=vv:=hvb.1;have hv2:vv<1000000000:=hvb.2.1;have HR0:Hid (fin lb (if vv=0 then none else fit s.data.toList (l''.drop n) (setF x 73 (-vv)))=tot):=(by rw[<-HF.out,hn]:fin lb (if vv=0 then none else fit s.data.toList (l''.drop n) (setF x 73 (-vv)))=tot)
   have q5:wc.cell? (Va q 5)=some (Vi vv):=AV hX.X 5;have qf:wc.frozen? (Va q 5)=false:=EY hX.X 5;have w1:IntKind.i64.wrap (-vv)= -vv:=by rw[IntKind.wrap_i64];omega
   clear hX hT3 hn hvb HF;by_cases hv0:vv=0
   ·subst hv0
    have HR:Hid (tot=none):=(by rw[<-HR0.out];rfl:tot=none)
    go_wp2_with fail;go_step3;refine HK.out 1 _ _ ⟨_,_,_,_,_,_,⟨rfl,rfl,rfl,rfl,rfl,rfl,rfl,rfl⟩,HX.out,HR.out⟩ ?_;show s.size*10+1<s.size*10+8;omega
   ·have hv3:(vv==0)=false:=by rw[beq_eq_false_iff_ne];exact hv0
    have HR:Hid (fin lb (fit s.data.toList (l''.drop n) (setF x 73 (-vv)))=tot):=(by rw[<-HR0.out,if_neg hv0]:fin lb (fit s.data.toList (l''.drop n) (setF x 73 (-vv)))=tot)
    clear hv0;go_wp2_with fail;go_step3;refine HK.out 0 _ _ ⟨_,_,lb,setF x 73 (-vv),_,_,l''.drop n,s,⟨rfl,rfl,rfl,rfl,rfl,rfl,rfl,rfl⟩,HT3.out,HX.out.put hq HPQ.out rfl,H64.out,HR.out,hsz⟩ ?_;show s.size*10+5<s.size*10+8;omega
def fo(c:UInt8):Nat:=if c=68 then 2 else if c=65 then 3 else if c=66 then 4 else if c=72 then 6 else 5
theorem W9{c:UInt8}(h:Er c=true)(hn:c≠64)(q:Nat)(lb:Bool)(x:NV):Lp q 1 c=.pointer (some ⟨q,fo c,none⟩)/\(∃z,(Ve (lb,x)).toArray[fo c]?=some z)/\∀v:Int,(Ve (lb,x)).toArray.setIfInBounds (fo c) (Vi v)=(Ve (lb,setF x c v)).toArray:=by
 unfold Er at h;simp only[Bool.or_eq_true,beq_iff_eq]at h;rcases h with(((((rfl|rfl)|rfl)|rfl)|rfl)|rfl)|rfl;all_goals first|exact absurd rfl hn|exact⟨rfl,⟨_,rfl⟩,fun _=>rfl⟩
theorem XZ{c:UInt8}(h:Er c=false)(q:Nat):Lp q 1 c=.pointer none:=by
 unfold Er at h;simp only[Bool.or_eq_false_iff,beq_eq_false_iff_ne]at h;obtain⟨⟨⟨⟨⟨⟨h1,h2⟩,h3⟩,h4⟩,h5⟩,h6⟩,_⟩:=h;unfold Lp;rw[if_neg h3,if_neg h1,if_neg h2,if_neg h5,if_neg h6,if_neg h4]
theorem bM(c:UInt8)(ps l:List UInt8)(x:NV)(h:Er c=true)(hm:¬(c=73/\l.head?=some 45)):fit (c::ps) l x=match DT l with|some (vv,n)=>fit ps (l.drop n) (setF x c vv)|none=>none:=by
 show(if Er c=true then(match MO (c==73) l with|some (vv,n)=>fit ps (l.drop n) (setF x c vv)|none=>none)else _)=_;rw[if_pos h];have e:MO (c==73) l=DT l:=by
  unfold MO;rw[if_neg];rintro⟨h1,h2⟩;refine hm ⟨by simpa using h1,?_⟩;cases l with
  |nil=>cases h2
  |cons r l=>
   simp only[List.head?_cons,Option.map_some,Option.some.injEq]at h2⊢;exact UInt8.toNat_inj.1 h2
 rw[e]
def bZ(f:Func):Code:=match findLabel (UD f) 0 with|some (.seq _ y)=>y|_=>.skip
theorem WW{y:Code}(h:findLabel (UD Tryz.f92) 0=some (.seq .skip y))(hw:y.wp P Q a w):(bZ Tryz.f92).wp P Q a w:=by
 unfold bZ;rw[h];exact hw
theorem Rl{c c':Code}(h:c'=c)(hw:c.wp P Q a w):c'.wp P Q a w:=by
 rw[h];exact hw
theorem XY(w:World)(p q b:Nat)(tot:Option Row)(K:Exit->Act->World->Prop)(hq:w.heap.size<=q)(hpq:p≠q)(a:Act)(v:World)(h:LJ w p q b tot 0 a v)(hK:∀l' a' v',LJ w p q b tot l' a' v'->MF l' a' v'<MF 0 a v->K (.goto l') a' v'):
 (bZ Tryz.f92).wp Tryz.prog K a v:=by
 obtain⟨v6,v7,lb,x,o',cap',l',s,hF,hT,hX,h64,hfit,hsz⟩:=h;have HX:=hxy hX;have HT:=hxy hT;have H64:=hxy h64;have HB:=hxy hX.bel;have HPQ:=hxy hpq;have HK:Hid (∀l' a' v',LJ w p q b tot l' a' v'->MF l' a' v'<s.size*10+5->K (.goto l') a' v'):=(by
  intro l' a' v' h1 h2;refine hK l' a' v' h1 ?_;have e:MF 0 a v=s.size*10+5:=by
   unfold MF;rw[Array.getD_eq_getD_getElem?,hF.h10];rfl
  rw[e];exact h2:∀l' a' v',LJ w p q b tot l' a' v'->MF l' a' v'<s.size*10+5->K (.goto l') a' v')
 clear hX hT h64 hK hpq;obtain⟨u,rfl⟩:=hF.open;clear hF;refine WW (y:=?cc) ?hh ?ww
 case hh=>unfold UD Tryz.f92;dsimp only;exact rfl
 have HF:=hxy hfit;clear hfit;by_cases hs:s=⟨#[]⟩
 ·subst hs
  go_wp2_with fail;go_step3;refine HK.out 2 _ _ ⟨_,_,_,_,_,_,_,_,⟨rfl,rfl,rfl,rfl,rfl,rfl,rfl,rfl⟩,HT.out,HX.out,HF.out⟩ ?_;show 0*10+2<0*10+5;omega
 have HS:=hxy hs;have hs1:(0:Int)<s.size:=by
  have:s.size≠0:=fun e=>hs (ByteArray.size_eq_zero_iff.1 e)
  omega
 have hs2:s.toList.isEmpty=false:=by
  rw[Ls];cases hl:s.data.toList with
  |nil=>exact absurd (by obtain⟨⟨l⟩⟩:=s;cases hl;rfl) hs
  |cons c l=>rfl
 clear hs;have hs3:0<s.size:=by omega
 obtain⟨c,hc⟩:=Ae (s[0]);have hcc:∀h,s[0]'h=c:=fun _=>hc
 obtain⟨s',HS'⟩:∃s',Hid (s.extract 1 s.size=s'):=⟨_,(rfl:s.extract 1 s.size=s.extract 1 s.size)⟩
 have HDK:Hid (s.data.toList=c::s'.data.toList):=(by
  rw[<-HS'.out,Y1];have h1:=List.drop_eq_getElem_cons (l:=s.data.toList) (i:=0) (by simpa using hs3);rw[List.drop_zero]at h1;rw[h1];congr 1:s.data.toList=c::s'.data.toList)
 clear hc;go_upto_region 12 with fail;go_quiet(fail);go_wp2_with fail;have HX1:Hid (Gp w p q lb x (v.drewN nq)):=HX.out.below (below_drewN (Below.refl _ _) _);have HZ:Hid (s'.size+1=s.size):=(by
  have:=congrArg List.length HDK.out;simp at this;omega:s'.size+1=s.size)
 have H64':Hid (∀c∈s'.data.toList,c≠64):=fun c' h'=>H64.out c' (by rw[HDK.out];simp[h'])
 have hc64:Hid (c≠64):=H64.out c (by rw[HDK.out];simp);have HF':Hid (fin lb (fit (c::s'.data.toList) l' x)=tot):=(by rw[<-HDK.out];exact HF.out:fin lb (fit (c::s'.data.toList) l' x)=tot)
 have HK':Hid (∀l' a' v',LJ w p q b tot l' a' v'->MF l' a' v'<s'.size*10+15->K (.goto l') a' v'):=(fun l' a' v' h1 h2=>HK.out l' a' v' h1 (by have:=HZ.out;omega):∀l' a' v',LJ w p q b tot l' a' v'->MF l' a' v'<s'.size*10+15->K (.goto l') a' v')
 have hsz':(s'.size:Int)<=100:=by have:=HZ.out;omega
 obtain⟨v1,hv1⟩:=Ae (v.drewN nq);rw[HS'.out,hv1];rw[hv1]at HX1;clear hv1 HX HB HF HK H64 HDK HZ HS' HS hs2 hs3 hcc hsz hs1;refine(UX q 1 c v1).mono ?_;rintro e w1⟨rfl,hw1⟩;rw[hw1];clear hw1;cases hfd:Er c with
 |false=>
  rw[XZ hfd];have HFD:=hxy hfd;clear hfd;go_wp2_with fail;go_step3;refine HK'.out 3 _ _ ⟨_,c,lb,x,_,_,l',s',⟨rfl,rfl,rfl,rfl,rfl,rfl,rfl,rfl⟩,HT.out,HX1.out,H64'.out,HFD.out,HF'.out,hsz'⟩ ?_;show s'.size*10+8<s'.size*10+15;omega
 |true=>
  obtain⟨hpl,⟨z,hz⟩,hset⟩:=W9 hfd hc64.out q lb x;rw[hpl];have HFD:=hxy hfd;obtain⟨j,hj⟩:=Ae (fo c);rw[hj];rw[hj]at hz hset;have HJ:=hxy hj;have HSET:=hxy hset;have HZZ:=hxy hz;obtain⟨m,hm⟩:=Ae (decide (c=73/\l'.head?=some 45));have HM:=hxy hm;clear hm hj hset hz hpl hfd;go_upto_region 15 with fail;go_cut [7,67]from 55 to 66(fun v7 bv wx=>wx=v1/\v7=.int .u8 (c.toNat:Int)/\bv=.bool m)
  case first=>
   by_cases h73:c=73
   ·subst h73
    cases l' with
    |nil=>
     have e:Hid (false=m):=(by rw[<-HM.out];simp:false=m)
     go_wp2_with fail;go_meet;exact⟨rfl,rfl,congrArg Value.bool e.out⟩
    |cons r l''=>
     have g0:v1.cell? (Va b o')=some (.int .u8 (r.toNat:Int)):=by
      have:=GY HT.out.A (k:=0) (by simp);exact(HX1.out.bel.cell (p:=Va b o') HT.out.A.1).trans this
     have hl1:(0:Int)<(l''.length:Int)+1:=by omega
     by_cases hr:r=45
     ·subst hr
      have e:Hid (true=m):=(by rw[<-HM.out];simp:true=m)
      go_wp2_with fail;go_meet;exact⟨rfl,rfl,congrArg Value.bool e.out⟩
     ·have e:Hid (false=m):=(by rw[<-HM.out];simp[hr]:false=m)
      have k45:((r.toNat:Int)==45)=false:=bE (n:=45) (by omega) hr;clear hr;go_wp2_with fail;go_meet;exact⟨rfl,rfl,congrArg Value.bool e.out⟩
   ·have e:Hid (false=m):=(by rw[<-HM.out];simp[h73]:false=m)
    have k73:((c.toNat:Int)==73)=false:=bE (n:=73) (by omega) h73;clear h73;go_wp2_with fail;go_meet;exact⟨rfl,rfl,congrArg Value.bool e.out⟩
  case rest=>
  obtain⟨hw,rfl,rfl⟩:=hcut;rw[hw];clear hw;cases m with
  |true=>
   have hm:c=73/\l'.head?=some 45:=by simpa using HM.out
   have hj5:j=5:=by rw[<-HJ.out,hm.1];rfl
   rw[hj5];have HM2:=hxy hm;clear hm hj5;go_wp2_with fail;go_step3;refine HK'.out 4 _ _ ⟨_,lb,x,_,_,l',s',⟨rfl,rfl,rfl,rfl,rfl,rfl,rfl,rfl⟩,HT.out,HX1.out,H64'.out,HM2.out.2,by rw[<-HF'.out,HM2.out.1],hsz'⟩ ?_;show s'.size*10+8<s'.size*10+15;omega
  |false=>
   have hnm:¬(c=73/\l'.head?=some 45):=by simpa using HM.out
   have HF2:Hid (fin lb (match DT l' with|some (vv,n)=>fit s'.data.toList (l'.drop n) (setF x c vv)|none=>none)=tot):=(by rw[<-HF'.out,bM c _ _ _ HFD.out hnm]:fin lb (match DT l' with|some (vv,n)=>fit s'.data.toList (l'.drop n) (setF x c vv)|none=>none)=tot)
   clear hnm;go_wp2_with fail;refine(FR b o' cap' l' v1 HT.out.n HT.out.c (HT.out.A.below HX1.out.bel HT.out.A.1)).mono ?_;rintro e w2⟨hr,hb2⟩;have HX2:=hxy (HX1.out.below hb2);have qj:=(AV HX2.out.X j).trans HZZ.out;have qf:=EY HX2.out.X j;clear hb2 HX1;rcases hn:DT l' with _|⟨vv,n⟩
   ·rw[hn]at hr
    have hr:e=.returned (.tuple #[Vi 0,_,.bool false]):=hr;subst hr;have HR:Hid (tot=none):=(by rw[<-HF2.out,hn];rfl:tot=none)
    clear hn HF2;go_wp2_with fail;go_step3;refine HK'.out 1 _ _ ⟨_,_,_,_,lb,setF x c 0,⟨rfl,rfl,rfl,rfl,rfl,rfl,rfl,rfl⟩,HX2.out.put hq HPQ.out (HSET.out 0),HR.out⟩ ?_;show s'.size*10+1<s'.size*10+15;omega
   ·rw[hn]at hr
    obtain⟨o3,rfl,ho3⟩:=hr;have HT3:=hxy (HT.out.drop n o3 (IY hn).2.2.2.2.1 ho3);have HR:Hid (fin lb (fit s'.data.toList (l'.drop n) (setF x c vv))=tot):=(by rw[<-HF2.out,hn]:fin lb (fit s'.data.toList (l'.drop n) (setF x c vv))=tot)
    clear hn ho3 HF2;rw[show l'.length-n=(l'.drop n).length from(List.length_drop ..).symm];go_wp2_with fail;go_step3;refine HK'.out 0 _ _ ⟨_,_,lb,setF x c vv,_,_,l'.drop n,s',⟨rfl,rfl,rfl,rfl,rfl,rfl,by simp[List.length_drop],rfl⟩,HT3.out,HX2.out.put hq HPQ.out (HSET.out vv),H64'.out,HR.out,hsz'⟩ ?_;show s'.size*10+5<s'.size*10+15;omega
theorem gF(w:World)(p q b:Nat)(tot:Option Row)(K:Exit->Act->World->Prop)(hq:w.heap.size<=q)(hpq:p≠q)(a:Act)(v:World)(h:LJ w p q b tot 0 a v)(hK:∀l' a' v',LJ w p q b tot l' a' v'->MF l' a' v'<MF 0 a v->K (.goto l') a' v'):
 (ZO Tryz.f92 0).wp Tryz.prog K a v:=by
 refine Gz (l:=0) (c:=?cc) ?hh ?ww
 case hh=>unfold UD Tryz.f92;dsimp only;exact rfl
 refine wp_seq (wp_skip ?_);refine Rl (c:=(bZ Tryz.f92)) ?_ (XY w p q b tot K hq hpq a v h hK);unfold bZ UD Tryz.f92;dsimp only;rfl
theorem eX(d op:Int)(hd:d=0∨d=1)(h1:1<=op)(h2:op<=34):(∀c∈(Kc d (Cz op)).data.toList,c≠64)/\((Kc d (Cz op)).size:Int)<=100:=by
 obtain rfl|rfl|rfl|rfl|rfl|rfl|rfl|rfl|rfl|rfl|rfl|rfl|rfl|rfl|rfl|rfl|rfl|rfl|rfl|rfl|rfl|rfl|rfl|rfl|rfl|rfl|rfl|rfl|rfl|rfl|rfl|rfl|rfl|rfl:op=1∨op=2∨op=3∨op=4∨op=5∨op=6∨op=7∨op=8∨op=9∨op=10∨op=11∨op=12∨op=13∨op=14∨op=15∨op=16∨op=17∨op=18∨op=19∨op=20∨op=21∨op=22∨op=23∨op=24∨op=25∨op=26∨op=27∨op=28∨op=29∨op=30∨op=31∨op=32∨op=33∨op=34:=by omega
 all_goals(rcases hd with rfl|rfl<;>exact⟨by decide,by decide⟩)
theorem bV(d:Int)(hd:d=0∨d=1):(∀c∈(Kc d 64).data.toList,c≠64)/\((Kc d 64).size:Int)<=100/\0<(Kc d 64).size/\∀h,(Kc d 64)[0]'h=Wx d:=by
 rcases hd with rfl|rfl<;>exact⟨by decide,by decide,by decide,fun _=>rfl⟩
theorem Zx(d:Int)(hd:d=0∨d=1)(l:List UInt8)(h:l.head?=some (Wx d)):fin true (fit (Kc d 64).data.toList l JB)=Da d l:=by
 unfold Da;rw[Wj hd h];show fin true (fit (H8 d 64) l JB)=_;cases fit (H8 d 64) l JB<;>rfl
theorem aF(d:Int)(hd:d=0∨d=1)(l:List UInt8)(h:l.head?≠some (Wx d)):Da d l=if Cg (l.take (pre DF l))=0 then none else fin false (fit (Kc d (Cz (Cg (l.take (pre DF l))))).data.toList (l.drop (pre DF l)) {JB with op:=Cg (l.take (pre DF l))}):=by
 unfold Da KE;rw[JK hd h];simp only;by_cases h0:Cg (l.take (pre DF l))=0
 ·rw[if_pos h0,if_pos h0]
 ·rw[if_neg h0,if_neg h0]
  show _=fin false (fit (H8 d _) _ _);cases fit (H8 d (Cz (Cg (l.take (pre DF l))))) (l.drop (pre DF l)) {JB with op:=Cg (l.take (pre DF l))}with
  |none=>rfl
  |some x=>simp[fin]
theorem Ew:dH:=by
 intro sb nb ob mf d b o cap l w hS hO hd hl hcap hA;have HS:=hxy hS;have HO:=hxy hO;have HD:=hxy hd;have HT:Hid (LT w b o cap l):=(⟨hA,hcap,hl⟩:LT w b o cap l)
 obtain⟨tot,htot⟩:=Ae (Da d l);rw[htot];have HTOT:=hxy htot;clear hS hO hd hl hcap hA htot;go_enter Tryz.func92,Tryz.ntmps92;go_wp2_with fail;obtain⟨p,hp⟩:=Ae w.heap.size;rw[hp];have HP:=hxy hp;have hq:w.heap.size<=p+1:=by omega
 have hpq:p≠p+1:=by omega
 have hp1:w.heap.size<=p:=by omega
 refine OC (ZO Tryz.f92) (LJ w p (p+1) b tot) MF (fun l' a' v' h'=>?_) ?first (fun l' a' v' h'=>?_)
 ·have key:∀k,k=0∨k=1∨k=2∨k=3∨k=4->findLabel (UD Tryz.f92) k=some (ZO Tryz.f92 k):=by
   intro k hk;unfold ZO UD Tryz.f92;rcases hk with rfl|rfl|rfl|rfl|rfl<;>(dsimp only;rfl)
  have hk:l'=0∨l'=1∨l'=2∨l'=3∨l'=4:=by
   match l',h' with
   |0,_=>omega
   |1,_=>omega
   |2,_=>omega
   |3,_=>omega
   |4,_=>omega
   |_+5,h=>exact h.elim
  have:=key l' hk;unfold UD Tryz.f92 at this;dsimp only at this;exact this
 ·go_upto_region 5 with fail
  obtain⟨u,hu,GX0⟩:∃v,(w.alloc (.cells #[.bool false,Vi 0,Vi 0,Vi 0,Vi 0,Vi 0,Vi 0] 182)).alloc (.cells #[.bool false,Vi 0,Vi 0,Vi 0,Vi 0,Vi 0,Vi 0] 182)=v/\Hid (Gp w p (p+1) false JB v):=by
   refine⟨_,rfl,?_⟩;obtain⟨ob1,hob1⟩:=Ae (Obj.cells #[.bool false,Vi 0,Vi 0,Vi 0,Vi 0,Vi 0,Vi 0] 182);rw[hob1];have h1:Below w.heap.size w (w.alloc ob1):=Ak;have h2:Below (w.alloc ob1).heap.size (w.alloc ob1) ((w.alloc ob1).alloc ob1):=Ak;have e1:(w.alloc ob1).heap.size=p+1:=by simp[HP.out]
   refine(⟨h1.trans (h2.mono h1.size),?_,?_⟩:Gp w p (p+1) false JB _)
   ·rw[h2.block p (by omega),<-HP.out];refine(Ai w _).trans ?_;rw[<-hob1];rfl
   ·rw[<-e1];refine(Ai _ _).trans ?_;rw[<-hob1];rfl
  rw[hu];clear hu hp;have sc:∀{v':World},Below w.heap.size w v'->SC v' sb nb ob mf d:=fun{v'}hb=>by
   obtain⟨om,m1,m2⟩:=HS.out.M;exact HS.out.below hb (jH.1 HS.out.S).1 (jH.1 HS.out.N).1 (jH.1 m1).1
  have HSC:Hid (∀{v':World},Below w.heap.size w v'->SC v' sb nb ob mf d):=sc;have HOP:Hid (∀{v':World},Below w.heap.size w v'->Fe v' ob):=(fun{v'}hb=>by
   obtain⟨oo,o1,o2⟩:=HO.out;exact HO.out.below hb (jH.1 o1).1:∀{v':World},Below w.heap.size w v'->Fe v' ob)
  clear sc;go_wp2_with fail;refine(Ht sb nb ob mf d 64 u (HSC.out GX0.out.bel) (by rcases HD.out with rfl|rfl<;>rfl)).mono ?_;rintro e v1⟨rfl,hb1⟩;have GX1:=hxy (GX0.out.below hb1);clear hb1 GX0;obtain⟨hl64,hlsz,hls0,hlc⟩:=bV d HD.out;have HL64:=hxy hl64;obtain⟨s,hs⟩:=Ae (Kc d 64);obtain⟨c0,hc0⟩:=Ae (Wx d);rw[hs]at hlsz hls0 hlc⊢;rw[hc0]at hlc;have HSS:=hxy hs;have HC0:=hxy hc0;clear hl64 hs hc0;obtain⟨m,hm⟩:=Ae (decide (l.head?=some c0));have HM:=hxy hm;clear hm;go_upto_region 6 with fail;go_cut [24]from 14 to 23(fun bv wx=>bv=.bool m/\Gp w p (p+1) false JB wx)
  case first=>
   cases l with
   |nil=>
    have e:Hid (false=m):=(by rw[<-HM.out];simp:false=m)
    go_quiet(fail);go_wp2_with fail;go_meet;exact⟨congrArg Value.bool e.out,GX1.out.below (below_drewN (Below.refl _ _) _)⟩
   |cons r l'=>
    have g0:v1.cell? (Va b o)=some (.int .u8 (r.toNat:Int)):=by
     have:=GY HT.out.A (k:=0) (by simp);exact(GX1.out.bel.cell (p:=Va b o) HT.out.A.1).trans this
    have hl1:(0:Int)<(l'.length:Int)+1:=by omega
    have hrm:((r.toNat:Int)==(c0.toNat:Int))=m:=by
     rw[<-HM.out,Bool.eq_iff_iff];simp only[beq_iff_eq,List.head?_cons,Option.some.injEq,decide_eq_true_eq];exact⟨fun h=>UInt8.toNat_inj.1 (by omega),fun h=>by rw[h]⟩
    go_quiet(fail);go_wp2_with fail;go_meet;exact⟨rfl,GX1.out.below (below_drewN (Below.refl _ _) _)⟩
  case rest=>
   obtain⟨rfl,hX⟩:=hcut;have GX2:=hxy hX;clear hX GX1 hlc;cases m with
   |true=>
    have q0:wc.cell? ⟨p+1,0,none⟩=some (.bool false):=AV GX2.out.X 0;have qf:wc.frozen? ⟨p+1,0,none⟩=false:=EY GX2.out.X 0;have HR:Hid (fin true (fit s.data.toList l JB)=tot):=(by
     rw[<-HTOT.out,<-HSS.out];exact Zx d HD.out l (by rw[HC0.out];simpa using HM.out):fin true (fit s.data.toList l JB)=tot)
    go_wp2_with fail;go_step3;exact⟨_,_,true,JB,o,cap,l,s,⟨rfl,rfl,rfl,rfl,rfl,rfl,rfl,rfl⟩,HT.out,GX2.out.put hq hpq rfl,by rw[<-HSS.out];exact HL64.out,HR.out,hlsz⟩
   |false=>
    have HHD:Hid (l.head?≠some (Wx d)):=(by rw[HC0.out];simpa using HM.out:l.head?≠some (Wx d))
    have HR0:=hxy (aF d HD.out l HHD.out);go_wp2_with fail;refine(Qi sb nb ob mf d b o cap l wc (HSC.out GX2.out.bel) (HOP.out GX2.out.bel) HT.out.n HT.out.c (HT.out.A.below GX2.out.bel HT.out.A.1)).mono ?_;rintro e v2⟨⟨o2,rfl,ho2⟩,hb2⟩;have HPL:=hxy (Fq DF l);have HT2:Hid (LT w b o2 (cap-pre DF l) (l.drop (pre DF l))):=HT.out.drop _ o2 HPL.out ho2;have GX3:=hxy (GX2.out.below hb2);have q1:v2.cell? ⟨p+1,1,none⟩=some (Vi 0):=AV GX3.out.X 1;have qf:v2.frozen? ⟨p+1,1,none⟩=false:=EY GX3.out.X 1;clear hb2 ho2 GX2;obtain⟨op,hop⟩:=Ae (Cg (l.take (pre DF l)));have HOPE:=hxy hop;rw[hop]at HR0⊢;clear hop;obtain⟨k,hk⟩:=Ae (pre DF l);rw[hk]at HR0 HT2 HPL⊢;clear hk;rw[show l.length-k=(l.drop k).length from(List.length_drop ..).symm];obtain⟨l2,hl2⟩:=Ae (l.drop k);rw[hl2]at HR0 HT2⊢;clear hl2;rw[HTOT.out]at HR0;go_upto_region 9 with fail;obtain⟨v3,hv3,GX4⟩:∃v3,v2.setCell ⟨p+1,1,none⟩ (Vi op)=v3/\Hid (Gp w p (p+1) false {JB with op:=op} v3):=⟨_,rfl,GX3.out.put hq hpq rfl⟩
    rw[hv3];clear hv3 q1 qf GX3;have q1:v3.cell? ⟨p+1,1,none⟩=some (Vi op):=AV GX4.out.X 1;by_cases h0:op=0
    ·subst h0
     have HR:Hid (tot=none):=(by rw[HR0.out,if_pos rfl]:tot=none)
     go_wp2_with fail;go_step3;exact⟨_,_,_,_,false,_,⟨rfl,rfl,rfl,rfl,rfl,rfl,rfl,rfl⟩,GX4.out,HR.out⟩
    ·have hop0:(op==0)=false:=by rw[beq_eq_false_iff_ne];exact h0
     have HR:Hid (fin false (fit (Kc d (Cz op)).data.toList l2 {JB with op:=op})=tot):=(by rw[HR0.out,if_neg h0]:fin false (fit (Kc d (Cz op)).data.toList l2 {JB with op:=op})=tot)
     have HBK:Hid (1<=op/\op<=34):=⟨(IL HOPE.out h0).1,(IL HOPE.out h0).2.1⟩
     clear h0;go_wp2_with fail;refine(Kk op v3).mono ?_;rintro e w4⟨rfl,hw4⟩;rw[hw4];clear hw4;go_wp2_with fail;refine(Ht sb nb ob mf d (Cz op) v3 (HSC.out GX4.out.bel) (VQ d op HD.out HBK.out.1 HBK.out.2)).mono ?_;rintro e v5⟨rfl,hb5⟩;have GX5:=hxy (GX4.out.below hb5);clear hb5 GX4 q1;obtain⟨h64,hsz⟩:=eX d op HD.out HBK.out.1 HBK.out.2;have H64:=hxy h64;obtain⟨s2,hs2⟩:=Ae (Kc d (Cz op));rw[hs2]at HR H64 hsz⊢;clear hs2 h64;go_wp2_with fail;rename_i KK hKK
     go_step3;refine hKK _ _ ?_;refine Rl (c:=(bZ Tryz.f92)) ?_ (XY w p (p+1) b tot _ hq hpq _ v5 ⟨_,_,false,{JB with op:=op},o2,cap-k,l2,s2,⟨rfl,rfl,rfl,rfl,rfl,rfl,rfl,rfl⟩,HT2.out,GX5.out,H64.out,HR.out,hsz⟩ (fun _ _ _ h2 _=>h2));unfold bZ UD Tryz.f92;dsimp only;rfl
 ·have hQ:∀(a:Act)(v':World)v5 v6 v7 v9 v10,ZN a (Vq p) v5 v6 v7 v9 v10->v'.heap[p]?=some (.cells (Ws tot) 182)->Below w.heap.size w v'->bodyPost Tryz.prog Tryz.f92 (fun e w'=>e=.returned (.agg (Ws tot))/\Below w.heap.size w w') .ret a v':=by
   intro a v' v5 v6 v7 v9 v10 hF hh hb;obtain⟨r,hr⟩:∃r,Ws tot=(Ve r).toArray:=⟨_,rfl⟩
   rw[hr]at hh⊢;have HB:=hxy hb;have p0:=AV hh 0;have p1:=AV hh 1;have p2:=AV hh 2;have p3:=AV hh 3;have p4:=AV hh 4;have p5:=AV hh 5;have p6:=AV hh 6;simp only[Ve,List.getElem?_toArray,List.getElem?_cons_zero,List.getElem?_cons_succ]at p0 p1 p2 p3 p4 p5 p6;obtain⟨u,rfl⟩:=hF.open;clear hF hh hr hb hq hpq hp1 hp HT HS HO HD HTOT HP;exact bodyPost_ret (v:=.agg (Ve r).toArray) (by simp[results,Tryz.results92,go_sem,Ve, *]) rfl ⟨rfl,HB.out⟩
  match l',h' with
  |0,h=>exact gF w p (p+1) b tot _ hq hpq a' v' h (fun l2 a2 v2 h2 h3=>⟨h2,h3⟩)
  |1,h=>refine fq w p (p+1) b tot _ hp1 ?_ a' v' h;exact hQ
  |2,h=>refine fO w p (p+1) b tot _ hp1 hpq ?_ a' v' h;exact hQ
  |3,h=>exact gJ w p (p+1) b tot _ a' v' h (fun l2 a2 v2 h2 h3=>⟨h2,h3⟩)
  |4,h=>exact fQ w p (p+1) b tot _ hq hpq a' v' h (fun l2 a2 v2 h2 h3=>⟨h2,h3⟩)
  |_+5,h=>exact h.elim
end Go.Proofs.YtfpeecaaleijcaaGreatDoor
