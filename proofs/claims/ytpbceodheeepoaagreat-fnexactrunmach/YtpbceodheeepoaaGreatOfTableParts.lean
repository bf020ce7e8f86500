import Derived.Test.YtpbceodheeepoaaGreatRows
import Derived.Test.YtpbceodheeepoaaGreatOfCoreF
import Derived.WalkKit
import Derived.WalkSpells
import Derived.WalkLawsBesides
set_option maxHeartbeats 400000
namespace Go.Proofs.YtpbceodheeepoaaGreat
open Go.RowKit
def first(m:Nat)(f:Nat->Value):List Value:=(List.range m).map f
theorem first_length(m:Nat)(f:Nat->Value):(first m f).length=m:=by simp[first]
theorem first_get{m:Nat}{f:Nat->Value}{j:Nat}{u:Value}(h:(first m f)[j]?=some u):j<m/\u=f j:=by
 unfold first at h
 rw[List.getElem?_map]at h;by_cases hj:j<m
 ·rw[List.getElem?_range hj]at h
  exact⟨hj,by simpa using h.symm⟩
 ·rw[List.getElem?_eq_none (by simpa using Nat.le_of_not_lt hj)]at h
  cases h
theorem first_mem{m:Nat}{f:Nat->Value}{u:Value}(h:u∈first m f):∃j,j<m/\u=f j:=by
 unfold first at h
 simp only[List.mem_map,List.mem_range]at h;obtain⟨j,hj,rfl⟩:=h;exact⟨j,hj,rfl⟩
theorem info_cU:(Tryz.prog.info? 67).map (fun i=>(i.zero,i.size,i.bytes))=some (some (.int .u64 0),1,8):=by kernel_rfl
theorem copyU_at(b off n cap:Nat)(f:Nat->Value)(w:World)(hn:n<=1048576)(hat:At w b off (n*1) f)(h1:∀i,(f i).oneCell'=true):
 Calls Tryz.prog 92 #[.slice (some ⟨b,off,none⟩) n cap] w fun e w'=>∃v',e=.returned v'/\w'.ownsRow w.heap.size 67 1 v' n (first (n*1) f)/\Below w.heap.size w w'/\(v'=.slice none 0 0↔n=0):=by
 obtain⟨i0,hi,hz0,hz1,hz2⟩:=info_parts info_cU;have HA:Hid (At w b off (n*1) f):=hat;have H1:Hid (∀i,(f i).oneCell'=true):=h1;clear hat h1;go_enter Tryz.func92,Tryz.ntmps92;go_wp2_with(first|(at_builtin;refine wpList_append_own _ rfl _ _ 24 rfl w.heap.size 67 i0 (.int .u64 0) 1 8 Tryz.underlying24 hi hz0 hz1 hz2 rfl (by decide) _ 0 [] rfl (World.ownsRow_nil _ _ _ _) ⟨b,off,none⟩ n cap (first (n*1) f) rfl (first_length _ _) ?c1 ?c2 ?c3 ?c4 ?c5 ?_)|go_in)
 case c1=>
  intro j u hj;obtain⟨hm,rfl⟩:=first_get hj;rw[Addr.add_lit];exact HA.out.cell hm
 case c2=>
  intro u hu;obtain⟨j,_,rfl⟩:=first_mem hu;exact H1.out j
 case c3=>unfold maxLen;omega
 case c4=>omega
 case c5=>exact Nat.le_refl _
 ·intro v' w1 hown hgrow hnil
  have hown':w1.ownsRow w.heap.size 67 1 v' n (first (n*1) f):=by simpa using hown
  have hnil':v'=.slice none 0 0↔n=0:=by simpa using hnil
  have HB:Hid (Below w.heap.size w w1):=(Below.refl _ _).grown hgrow (Nat.le_refl _) (by intro k hk;cases hk);have HO:Hid (w1.ownsRow w.heap.size 67 1 v' n (first (n*1) f)):=hown';have HN:Hid (v'=.slice none 0 0↔n=0):=hnil';clear hown hown' hgrow hnil hnil' hi hz0 hz1 hz2;go_wp2;go_ret;exact⟨v',rfl,HO.out,HB.out,HN.out⟩
theorem copyU_nil(w:World):Calls Tryz.prog 92 #[.slice none 0 0] w fun e w'=>e=.returned (.slice none 0 0)/\w'=w:=by
 go_enter Tryz.func92,Tryz.ntmps92;go_wp2;go_ret;exact⟨rfl,rfl⟩
theorem info_cB:(Tryz.prog.info? 5).map (fun i=>(i.zero,i.size,i.bytes))=some (some (.int .u8 0),1,1):=by kernel_rfl
theorem copyB_at(b off n cap:Nat)(f:Nat->Value)(w:World)(hn:n<=1048576)(hat:At w b off (n*1) f)(h1:∀i,(f i).oneCell'=true):
 Calls Tryz.prog 94 #[.slice (some ⟨b,off,none⟩) n cap] w fun e w'=>∃v',e=.returned v'/\w'.ownsRow w.heap.size 5 1 v' n (first (n*1) f)/\Below w.heap.size w w'/\(v'=.slice none 0 0↔n=0):=by
 obtain⟨i0,hi,hz0,hz1,hz2⟩:=info_parts info_cB;have HA:Hid (At w b off (n*1) f):=hat;have H1:Hid (∀i,(f i).oneCell'=true):=h1;clear hat h1;go_enter Tryz.func94,Tryz.ntmps94;go_wp2_with(first|(at_builtin;refine wpList_append_own _ rfl _ _ 22 rfl w.heap.size 5 i0 (.int .u8 0) 1 1 Tryz.underlying22 hi hz0 hz1 hz2 rfl (by decide) _ 0 [] rfl (World.ownsRow_nil _ _ _ _) ⟨b,off,none⟩ n cap (first (n*1) f) rfl (first_length _ _) ?c1 ?c2 ?c3 ?c4 ?c5 ?_)|go_in)
 case c1=>
  intro j u hj;obtain⟨hm,rfl⟩:=first_get hj;rw[Addr.add_lit];exact HA.out.cell hm
 case c2=>
  intro u hu;obtain⟨j,_,rfl⟩:=first_mem hu;exact H1.out j
 case c3=>unfold maxLen;omega
 case c4=>omega
 case c5=>exact Nat.le_refl _
 ·intro v' w1 hown hgrow hnil
  have hown':w1.ownsRow w.heap.size 5 1 v' n (first (n*1) f):=by simpa using hown
  have hnil':v'=.slice none 0 0↔n=0:=by simpa using hnil
  have HB:Hid (Below w.heap.size w w1):=(Below.refl _ _).grown hgrow (Nat.le_refl _) (by intro k hk;cases hk);have HO:Hid (w1.ownsRow w.heap.size 5 1 v' n (first (n*1) f)):=hown';have HN:Hid (v'=.slice none 0 0↔n=0):=hnil';clear hown hown' hgrow hnil hnil' hi hz0 hz1 hz2;go_wp2;go_ret;exact⟨v',rfl,HO.out,HB.out,HN.out⟩
theorem copyB_nil(w:World):Calls Tryz.prog 94 #[.slice none 0 0] w fun e w'=>e=.returned (.slice none 0 0)/\w'=w:=by
 go_enter Tryz.func94,Tryz.ntmps94;go_wp2;go_ret;exact⟨rfl,rfl⟩
theorem info_cO:(Tryz.prog.info? 77).map (fun i=>(i.zero,i.size,i.bytes))=some (some (.agg #[.int .i64 0,.int .u64 0]),2,16):=by kernel_rfl
theorem copyO_at(b off n cap:Nat)(f:Nat->Value)(w:World)(hn:n<=1048576)(hat:At w b off (n*2) f)(h1:∀i,(f i).oneCell'=true):
 Calls Tryz.prog 95 #[.slice (some ⟨b,off,none⟩) n cap] w fun e w'=>∃v',e=.returned v'/\w'.ownsRow w.heap.size 77 2 v' n (first (n*2) f)/\Below w.heap.size w w'/\(v'=.slice none 0 0↔n=0):=by
 obtain⟨i0,hi,hz0,hz1,hz2⟩:=info_parts info_cO;have HA:Hid (At w b off (n*2) f):=hat;have H1:Hid (∀i,(f i).oneCell'=true):=h1;clear hat h1;go_enter Tryz.func95,Tryz.ntmps95;go_wp2_with(first|(at_builtin;refine wpList_append_own _ rfl _ _ 26 rfl w.heap.size 77 i0 (.agg #[.int .i64 0,.int .u64 0]) 2 16 Tryz.underlying26 hi hz0 hz1 hz2 rfl (by decide) _ 0 [] rfl (World.ownsRow_nil _ _ _ _) ⟨b,off,none⟩ n cap (first (n*2) f) rfl (first_length _ _) ?c1 ?c2 ?c3 ?c4 ?c5 ?_)|go_in)
 case c1=>
  intro j u hj;obtain⟨hm,rfl⟩:=first_get hj;rw[Addr.add_lit];exact HA.out.cell hm
 case c2=>
  intro u hu;obtain⟨j,_,rfl⟩:=first_mem hu;exact H1.out j
 case c3=>unfold maxLen;omega
 case c4=>omega
 case c5=>exact Nat.le_refl _
 ·intro v' w1 hown hgrow hnil
  have hown':w1.ownsRow w.heap.size 77 2 v' n (first (n*2) f):=by simpa using hown
  have hnil':v'=.slice none 0 0↔n=0:=by simpa using hnil
  have HB:Hid (Below w.heap.size w w1):=(Below.refl _ _).grown hgrow (Nat.le_refl _) (by intro k hk;cases hk);have HO:Hid (w1.ownsRow w.heap.size 77 2 v' n (first (n*2) f)):=hown';have HN:Hid (v'=.slice none 0 0↔n=0):=hnil';clear hown hown' hgrow hnil hnil' hi hz0 hz1 hz2;go_wp2;go_ret;exact⟨v',rfl,HO.out,HB.out,HN.out⟩
theorem copyO_nil(w:World):Calls Tryz.prog 95 #[.slice none 0 0] w fun e w'=>e=.returned (.slice none 0 0)/\w'=w:=by
 go_enter Tryz.func95,Tryz.ntmps95;go_wp2;go_ret;exact⟨rfl,rfl⟩
theorem info_cH:(Tryz.prog.info? 69).map (fun i=>(i.zero,i.size,i.bytes))=some (some (.agg #[.int .u64 0,.bool false,.slice none 0 0]),3,40):=by kernel_rfl
theorem copyH_at(b off n cap:Nat)(f:Nat->Value)(w:World)(hn:n<=1048576)(hat:At w b off (n*3) f)(h1:∀i,(f i).oneCell'=true):
 Calls Tryz.prog 93 #[.slice (some ⟨b,off,none⟩) n cap] w fun e w'=>∃v',e=.returned v'/\w'.ownsRow w.heap.size 69 3 v' n (first (n*3) f)/\Below w.heap.size w w'/\(v'=.slice none 0 0↔n=0):=by
 obtain⟨i0,hi,hz0,hz1,hz2⟩:=info_parts info_cH;have HA:Hid (At w b off (n*3) f):=hat;have H1:Hid (∀i,(f i).oneCell'=true):=h1;clear hat h1;go_enter Tryz.func93,Tryz.ntmps93;go_wp2_with(first|(at_builtin;refine wpList_append_own _ rfl _ _ 25 rfl w.heap.size 69 i0 (.agg #[.int .u64 0,.bool false,.slice none 0 0]) 3 40 Tryz.underlying25 hi hz0 hz1 hz2 rfl (by decide) _ 0 [] rfl (World.ownsRow_nil _ _ _ _) ⟨b,off,none⟩ n cap (first (n*3) f) rfl (first_length _ _) ?c1 ?c2 ?c3 ?c4 ?c5 ?_)|go_in)
 case c1=>
  intro j u hj;obtain⟨hm,rfl⟩:=first_get hj;rw[Addr.add_lit];exact HA.out.cell hm
 case c2=>
  intro u hu;obtain⟨j,_,rfl⟩:=first_mem hu;exact H1.out j
 case c3=>unfold maxLen;omega
 case c4=>omega
 case c5=>exact Nat.le_refl _
 ·intro v' w1 hown hgrow hnil
  have hown':w1.ownsRow w.heap.size 69 3 v' n (first (n*3) f):=by simpa using hown
  have hnil':v'=.slice none 0 0↔n=0:=by simpa using hnil
  have HB:Hid (Below w.heap.size w w1):=(Below.refl _ _).grown hgrow (Nat.le_refl _) (by intro k hk;cases hk);have HO:Hid (w1.ownsRow w.heap.size 69 3 v' n (first (n*3) f)):=hown';have HN:Hid (v'=.slice none 0 0↔n=0):=hnil';clear hown hown' hgrow hnil hnil' hi hz0 hz1 hz2;go_wp2;go_ret;exact⟨v',rfl,HO.out,HB.out,HN.out⟩
theorem copyH_nil(w:World):Calls Tryz.prog 93 #[.slice none 0 0] w fun e w'=>e=.returned (.slice none 0 0)/\w'=w:=by
 go_enter Tryz.func93,Tryz.ntmps93;go_wp2;go_ret;exact⟨rfl,rfl⟩
theorem ofRegisters_any(f:Nat)(w:World):Calls Tryz.prog 98 #[.func (.func f) #[] #[]] w fun e w'=>e=.returned (.func (.func 132) #[] #[.pointer (some ⟨w.heap.size,0,none⟩)])/\w'=(w.alloc (.cells #[.func (.func f) #[] #[]] 132)):=by
 go_enter Tryz.func98,Tryz.ntmps98;go_wp2;go_ret;exact⟨rfl,rfl⟩
theorem ofNumber_any(f:Nat)(w:World):Calls Tryz.prog 106 #[.func (.func f) #[] #[]] w fun e w'=>e=.returned (.func (.func 135) #[] #[.pointer (some ⟨w.heap.size,0,none⟩)])/\w'=(w.alloc (.cells #[.func (.func f) #[] #[]] 132)):=by
 go_enter Tryz.func106,Tryz.ntmps106;go_wp2;go_ret;exact⟨rfl,rfl⟩
theorem selectBy_any(f:Nat)(w:World):Calls Tryz.prog 114 #[.func (.func f) #[] #[]] w fun e w'=>e=.returned (.func (.func 138) #[] #[.pointer (some ⟨w.heap.size,0,none⟩)])/\w'=(w.alloc (.cells #[.func (.func f) #[] #[]] 144)):=by
 go_enter Tryz.func114,Tryz.ntmps114;go_wp2;go_ret;exact⟨rfl,rfl⟩
theorem loadOf_any(f:Nat)(k:Int)(w:World):Calls Tryz.prog 117 #[.int .u64 k,.func (.func f) #[] #[]] w fun e w'=>e=.returned (.func (.func 140) #[] #[.pointer (some ⟨w.heap.size+1,0,none⟩),.pointer (some ⟨w.heap.size,0,none⟩)])/\w'=((w.alloc (.cells #[.int .u64 k] 67)).alloc (.cells #[.func (.func f) #[] #[]] 146)):=by
 go_enter Tryz.func117,Tryz.ntmps117;go_wp2;go_ret;exact⟨rfl,rfl⟩
theorem storeOf_any(f:Nat)(k:Int)(w:World):Calls Tryz.prog 119 #[.int .u64 k,.func (.func f) #[] #[]] w fun e w'=>e=.returned (.func (.func 142) #[] #[.pointer (some ⟨w.heap.size+1,0,none⟩),.pointer (some ⟨w.heap.size,0,none⟩)])/\w'=((w.alloc (.cells #[.int .u64 k] 67)).alloc (.cells #[.func (.func f) #[] #[]] 146)):=by
 go_enter Tryz.func119,Tryz.ntmps119;go_wp2;go_ret;exact⟨rfl,rfl⟩
theorem jumpWhen_any(f:Nat)(v:Bool)(w:World):Calls Tryz.prog 122 #[.func (.func f) #[] #[],.bool v] w fun e w'=>e=.returned (.func (.func 143) #[] #[.pointer (some ⟨w.heap.size,0,none⟩),.pointer (some ⟨w.heap.size+1,0,none⟩)])/\w'=((w.alloc (.cells #[.func (.func f) #[] #[]] 144)).alloc (.cells #[.bool v] 4)):=by
 go_enter Tryz.func122,Tryz.ntmps122;go_wp2;go_ret;exact⟨rfl,rfl⟩
end Go.Proofs.YtpbceodheeepoaaGreat
