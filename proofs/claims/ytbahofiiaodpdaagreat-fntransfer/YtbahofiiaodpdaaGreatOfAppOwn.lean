import Derived.Test.YtbahofiiaodpdaaGreatRows
import Derived.Test.YtbahofiiaodpdaaGreatOfCl
import Derived.WalkKit
import Derived.WalkSpells
import Derived.WalkLawsBesides
set_option maxHeartbeats 400000
namespace Go.Proofs.YtbahofiiaodpdaaGreat
open Go.RowKit
def first(m:Nat)(f:Nat->Value):List Value:=(List.range m).map f
theorem first_length(m:Nat)(f:Nat->Value):(first m f).length=m:=by simp[first]
theorem first_get{m:Nat}{f:Nat->Value}{j:Nat}{u:Value}(h:(first m f)[j]?=some u):j<m/\u=f j:=by
 unfold first at h
 rw[List.getElem?_map]at h;by_cases hj:j<m
 ·rw[List.getElem?_range hj]at h
  exact⟨hj,by simpa using h.symm⟩
 ·rw[List.getElem?_eq_none (by simpa using Nat.le_of_not_lt hj)]at h
  cases h
theorem first_mem{m:Nat}{f:Nat->Value}{u:Value}(h:u∈first m f):∃j,j<m/\u=f j:=by
 unfold first at h
 simp only[List.mem_map,List.mem_range]at h;obtain⟨j,hj,rfl⟩:=h;exact⟨j,hj,rfl⟩
theorem info_cU:(Tryz.prog.info? 77).map (fun i=>(i.zero,i.size,i.bytes))=some (some (.int .u64 0),1,8):=by kernel_rfl
theorem copyU_at(b off n cap:Nat)(f:Nat->Value)(w:World)(hn:n<=1048576)(hat:At w b off (n*1) f)(h1:∀i,(f i).oneCell'=true):
 Calls Tryz.prog 98 #[.slice (some ⟨b,off,none⟩) n cap] w fun e w'=>∃v',e=.returned v'/\w'.ownsRow w.heap.size 77 1 v' n (first (n*1) f)/\Below w.heap.size w w'/\(v'=.slice none 0 0↔n=0):=by
 obtain⟨i0,hi,hz0,hz1,hz2⟩:=info_parts info_cU;have HA:Hid (At w b off (n*1) f):=hat;have H1:Hid (∀i,(f i).oneCell'=true):=h1;clear hat h1;go_enter Tryz.func98,Tryz.ntmps98;go_wp2_with(first|(at_builtin;refine wpList_append_own _ rfl _ _ 36 rfl w.heap.size 77 i0 (.int .u64 0) 1 8 Tryz.underlying36 hi hz0 hz1 hz2 rfl (by decide) _ 0 [] rfl (World.ownsRow_nil _ _ _ _) ⟨b,off,none⟩ n cap (first (n*1) f) rfl (first_length _ _) ?c1 ?c2 ?c3 ?c4 ?c5 ?_)|go_in)
 case c1=>
  intro j u hj;obtain⟨hm,rfl⟩:=first_get hj;rw[Addr.add_lit];exact HA.out.cell hm
 case c2=>
  intro u hu;obtain⟨j,_,rfl⟩:=first_mem hu;exact H1.out j
 case c3=>unfold maxLen;omega
 case c4=>omega
 case c5=>exact Nat.le_refl _
 ·intro v' w1 hown hgrow hnil
  have hown':w1.ownsRow w.heap.size 77 1 v' n (first (n*1) f):=by simpa using hown
  have hnil':v'=.slice none 0 0↔n=0:=by simpa using hnil
  have HB:Hid (Below w.heap.size w w1):=(Below.refl _ _).grown hgrow (Nat.le_refl _) (by intro k hk;cases hk);have HO:Hid (w1.ownsRow w.heap.size 77 1 v' n (first (n*1) f)):=hown';have HN:Hid (v'=.slice none 0 0↔n=0):=hnil';clear hown hown' hgrow hnil hnil' hi hz0 hz1 hz2;go_wp2;go_ret;exact⟨v',rfl,HO.out,HB.out,HN.out⟩
theorem copyU_nil(w:World):Calls Tryz.prog 98 #[.slice none 0 0] w fun e w'=>e=.returned (.slice none 0 0)/\w'=w:=by
 go_enter Tryz.func98,Tryz.ntmps98;go_wp2;go_ret;exact⟨rfl,rfl⟩
theorem info_cB:(Tryz.prog.info? 5).map (fun i=>(i.zero,i.size,i.bytes))=some (some (.int .u8 0),1,1):=by kernel_rfl
theorem copyB_at(b off n cap:Nat)(f:Nat->Value)(w:World)(hn:n<=1048576)(hat:At w b off (n*1) f)(h1:∀i,(f i).oneCell'=true):
 Calls Tryz.prog 100 #[.slice (some ⟨b,off,none⟩) n cap] w fun e w'=>∃v',e=.returned v'/\w'.ownsRow w.heap.size 5 1 v' n (first (n*1) f)/\Below w.heap.size w w'/\(v'=.slice none 0 0↔n=0):=by
 obtain⟨i0,hi,hz0,hz1,hz2⟩:=info_parts info_cB;have HA:Hid (At w b off (n*1) f):=hat;have H1:Hid (∀i,(f i).oneCell'=true):=h1;clear hat h1;go_enter Tryz.func100,Tryz.ntmps100;go_wp2_with(first|(at_builtin;refine wpList_append_own _ rfl _ _ 22 rfl w.heap.size 5 i0 (.int .u8 0) 1 1 Tryz.underlying22 hi hz0 hz1 hz2 rfl (by decide) _ 0 [] rfl (World.ownsRow_nil _ _ _ _) ⟨b,off,none⟩ n cap (first (n*1) f) rfl (first_length _ _) ?c1 ?c2 ?c3 ?c4 ?c5 ?_)|go_in)
 case c1=>
  intro j u hj;obtain⟨hm,rfl⟩:=first_get hj;rw[Addr.add_lit];exact HA.out.cell hm
 case c2=>
  intro u hu;obtain⟨j,_,rfl⟩:=first_mem hu;exact H1.out j
 case c3=>unfold maxLen;omega
 case c4=>omega
 case c5=>exact Nat.le_refl _
 ·intro v' w1 hown hgrow hnil
  have hown':w1.ownsRow w.heap.size 5 1 v' n (first (n*1) f):=by simpa using hown
  have hnil':v'=.slice none 0 0↔n=0:=by simpa using hnil
  have HB:Hid (Below w.heap.size w w1):=(Below.refl _ _).grown hgrow (Nat.le_refl _) (by intro k hk;cases hk);have HO:Hid (w1.ownsRow w.heap.size 5 1 v' n (first (n*1) f)):=hown';have HN:Hid (v'=.slice none 0 0↔n=0):=hnil';clear hown hown' hgrow hnil hnil' hi hz0 hz1 hz2;go_wp2;go_ret;exact⟨v',rfl,HO.out,HB.out,HN.out⟩
theorem info_cO:(Tryz.prog.info? 82).map (fun i=>(i.zero,i.size,i.bytes))=some (some (.agg #[.int .i64 0,.int .u64 0]),2,16):=by kernel_rfl
theorem copyO_at(b off n cap:Nat)(f:Nat->Value)(w:World)(hn:n<=1048576)(hat:At w b off (n*2) f)(h1:∀i,(f i).oneCell'=true):
 Calls Tryz.prog 101 #[.slice (some ⟨b,off,none⟩) n cap] w fun e w'=>∃v',e=.returned v'/\w'.ownsRow w.heap.size 82 2 v' n (first (n*2) f)/\Below w.heap.size w w'/\(v'=.slice none 0 0↔n=0):=by
 obtain⟨i0,hi,hz0,hz1,hz2⟩:=info_parts info_cO;have HA:Hid (At w b off (n*2) f):=hat;have H1:Hid (∀i,(f i).oneCell'=true):=h1;clear hat h1;go_enter Tryz.func101,Tryz.ntmps101;go_wp2_with(first|(at_builtin;refine wpList_append_own _ rfl _ _ 38 rfl w.heap.size 82 i0 (.agg #[.int .i64 0,.int .u64 0]) 2 16 Tryz.underlying38 hi hz0 hz1 hz2 rfl (by decide) _ 0 [] rfl (World.ownsRow_nil _ _ _ _) ⟨b,off,none⟩ n cap (first (n*2) f) rfl (first_length _ _) ?c1 ?c2 ?c3 ?c4 ?c5 ?_)|go_in)
 case c1=>
  intro j u hj;obtain⟨hm,rfl⟩:=first_get hj;rw[Addr.add_lit];exact HA.out.cell hm
 case c2=>
  intro u hu;obtain⟨j,_,rfl⟩:=first_mem hu;exact H1.out j
 case c3=>unfold maxLen;omega
 case c4=>omega
 case c5=>exact Nat.le_refl _
 ·intro v' w1 hown hgrow hnil
  have hown':w1.ownsRow w.heap.size 82 2 v' n (first (n*2) f):=by simpa using hown
  have hnil':v'=.slice none 0 0↔n=0:=by simpa using hnil
  have HB:Hid (Below w.heap.size w w1):=(Below.refl _ _).grown hgrow (Nat.le_refl _) (by intro k hk;cases hk);have HO:Hid (w1.ownsRow w.heap.size 82 2 v' n (first (n*2) f)):=hown';have HN:Hid (v'=.slice none 0 0↔n=0):=hnil';clear hown hown' hgrow hnil hnil' hi hz0 hz1 hz2;go_wp2;go_ret;exact⟨v',rfl,HO.out,HB.out,HN.out⟩
theorem copyO_nil(w:World):Calls Tryz.prog 101 #[.slice none 0 0] w fun e w'=>e=.returned (.slice none 0 0)/\w'=w:=by
 go_enter Tryz.func101,Tryz.ntmps101;go_wp2;go_ret;exact⟨rfl,rfl⟩
theorem info_cH:(Tryz.prog.info? 79).map (fun i=>(i.zero,i.size,i.bytes))=some (some (.agg #[.int .u64 0,.bool false,.slice none 0 0]),3,40):=by kernel_rfl
theorem copyH_at(b off n cap:Nat)(f:Nat->Value)(w:World)(hn:n<=1048576)(hat:At w b off (n*3) f)(h1:∀i,(f i).oneCell'=true):
 Calls Tryz.prog 99 #[.slice (some ⟨b,off,none⟩) n cap] w fun e w'=>∃v',e=.returned v'/\w'.ownsRow w.heap.size 79 3 v' n (first (n*3) f)/\Below w.heap.size w w'/\(v'=.slice none 0 0↔n=0):=by
 obtain⟨i0,hi,hz0,hz1,hz2⟩:=info_parts info_cH;have HA:Hid (At w b off (n*3) f):=hat;have H1:Hid (∀i,(f i).oneCell'=true):=h1;clear hat h1;go_enter Tryz.func99,Tryz.ntmps99;go_wp2_with(first|(at_builtin;refine wpList_append_own _ rfl _ _ 37 rfl w.heap.size 79 i0 (.agg #[.int .u64 0,.bool false,.slice none 0 0]) 3 40 Tryz.underlying37 hi hz0 hz1 hz2 rfl (by decide) _ 0 [] rfl (World.ownsRow_nil _ _ _ _) ⟨b,off,none⟩ n cap (first (n*3) f) rfl (first_length _ _) ?c1 ?c2 ?c3 ?c4 ?c5 ?_)|go_in)
 case c1=>
  intro j u hj;obtain⟨hm,rfl⟩:=first_get hj;rw[Addr.add_lit];exact HA.out.cell hm
 case c2=>
  intro u hu;obtain⟨j,_,rfl⟩:=first_mem hu;exact H1.out j
 case c3=>unfold maxLen;omega
 case c4=>omega
 case c5=>exact Nat.le_refl _
 ·intro v' w1 hown hgrow hnil
  have hown':w1.ownsRow w.heap.size 79 3 v' n (first (n*3) f):=by simpa using hown
  have hnil':v'=.slice none 0 0↔n=0:=by simpa using hnil
  have HB:Hid (Below w.heap.size w w1):=(Below.refl _ _).grown hgrow (Nat.le_refl _) (by intro k hk;cases hk);have HO:Hid (w1.ownsRow w.heap.size 79 3 v' n (first (n*3) f)):=hown';have HN:Hid (v'=.slice none 0 0↔n=0):=hnil';clear hown hown' hgrow hnil hnil' hi hz0 hz1 hz2;go_wp2;go_ret;exact⟨v',rfl,HO.out,HB.out,HN.out⟩
theorem copyH_nil(w:World):Calls Tryz.prog 99 #[.slice none 0 0] w fun e w'=>e=.returned (.slice none 0 0)/\w'=w:=by
 go_enter Tryz.func99,Tryz.ntmps99;go_wp2;go_ret;exact⟨rfl,rfl⟩
theorem copyU_g(x:Option Addr)(b n cap:Nat)(f:Nat->Value)(w:World)(hn:n<=1048576)(hx:(x=none/\n=0/\cap=0)∨x=some ⟨b,0,none⟩)(hat:At w b 0 (n*1) f)(h1:∀i,(f i).oneCell'=true):
 Calls Tryz.prog 98 #[.slice x n cap] w fun e w'=>∃v',e=.returned v'/\w'.ownsRow w.heap.size 77 1 v' n (first (n*1) f)/\Below w.heap.size w w'/\(v'=.slice none 0 0↔n=0):=by
 rcases hx with⟨rfl,rfl,rfl⟩|rfl
 ·refine(copyU_nil w).mono ?_
  rintro e w'⟨rfl,rfl⟩;exact⟨_,rfl,⟨rfl,.inl ⟨rfl,rfl⟩⟩,Below.refl _ _,by simp⟩
 ·exact copyU_at b 0 n cap f w hn hat h1
theorem copyO_g(x:Option Addr)(b n cap:Nat)(f:Nat->Value)(w:World)(hn:n<=1048576)(hx:(x=none/\n=0/\cap=0)∨x=some ⟨b,0,none⟩)(hat:At w b 0 (n*2) f)(h1:∀i,(f i).oneCell'=true):
 Calls Tryz.prog 101 #[.slice x n cap] w fun e w'=>∃v',e=.returned v'/\w'.ownsRow w.heap.size 82 2 v' n (first (n*2) f)/\Below w.heap.size w w'/\(v'=.slice none 0 0↔n=0):=by
 rcases hx with⟨rfl,rfl,rfl⟩|rfl
 ·refine(copyO_nil w).mono ?_
  rintro e w'⟨rfl,rfl⟩;exact⟨_,rfl,⟨rfl,.inl ⟨rfl,rfl⟩⟩,Below.refl _ _,by simp⟩
 ·exact copyO_at b 0 n cap f w hn hat h1
theorem copyH_g(x:Option Addr)(b n cap:Nat)(f:Nat->Value)(w:World)(hn:n<=1048576)(hx:(x=none/\n=0/\cap=0)∨x=some ⟨b,0,none⟩)(hat:At w b 0 (n*3) f)(h1:∀i,(f i).oneCell'=true):
 Calls Tryz.prog 99 #[.slice x n cap] w fun e w'=>∃v',e=.returned v'/\w'.ownsRow w.heap.size 79 3 v' n (first (n*3) f)/\Below w.heap.size w w'/\(v'=.slice none 0 0↔n=0):=by
 rcases hx with⟨rfl,rfl,rfl⟩|rfl
 ·refine(copyH_nil w).mono ?_
  rintro e w'⟨rfl,rfl⟩;exact⟨_,rfl,⟨rfl,.inl ⟨rfl,rfl⟩⟩,Below.refl _ _,by simp⟩
 ·exact copyH_at b 0 n cap f w hn hat h1
theorem ofRegisters_any(f:Nat)(w:World):Calls Tryz.prog 104 #[.func (.func f) #[] #[]] w fun e w'=>e=.returned (.func (.func 134) #[] #[.pointer (some ⟨w.heap.size,0,none⟩)])/\w'=(w.alloc (.cells #[.func (.func f) #[] #[]] 139)):=by
 go_enter Tryz.func104,Tryz.ntmps104;go_wp2;go_ret;exact⟨rfl,rfl⟩
theorem ofNumber_any(f:Nat)(w:World):Calls Tryz.prog 112 #[.func (.func f) #[] #[]] w fun e w'=>e=.returned (.func (.func 136) #[] #[.pointer (some ⟨w.heap.size,0,none⟩)])/\w'=(w.alloc (.cells #[.func (.func f) #[] #[]] 139)):=by
 go_enter Tryz.func112,Tryz.ntmps112;go_wp2;go_ret;exact⟨rfl,rfl⟩
theorem selectBy_any(f:Nat)(w:World):Calls Tryz.prog 120 #[.func (.func f) #[] #[]] w fun e w'=>e=.returned (.func (.func 139) #[] #[.pointer (some ⟨w.heap.size,0,none⟩)])/\w'=(w.alloc (.cells #[.func (.func f) #[] #[]] 150)):=by
 go_enter Tryz.func120,Tryz.ntmps120;go_wp2;go_ret;exact⟨rfl,rfl⟩
theorem loadOf_any(f:Nat)(k:Int)(w:World):Calls Tryz.prog 123 #[.int .u64 k,.func (.func f) #[] #[]] w fun e w'=>e=.returned (.func (.func 141) #[] #[.pointer (some ⟨w.heap.size+1,0,none⟩),.pointer (some ⟨w.heap.size,0,none⟩)])/\w'=((w.alloc (.cells #[.int .u64 k] 77)).alloc (.cells #[.func (.func f) #[] #[]] 152)):=by
 go_enter Tryz.func123,Tryz.ntmps123;go_wp2;go_ret;exact⟨rfl,rfl⟩
theorem storeOf_any(f:Nat)(k:Int)(w:World):Calls Tryz.prog 125 #[.int .u64 k,.func (.func f) #[] #[]] w fun e w'=>e=.returned (.func (.func 143) #[] #[.pointer (some ⟨w.heap.size+1,0,none⟩),.pointer (some ⟨w.heap.size,0,none⟩)])/\w'=((w.alloc (.cells #[.int .u64 k] 77)).alloc (.cells #[.func (.func f) #[] #[]] 152)):=by
 go_enter Tryz.func125,Tryz.ntmps125;go_wp2;go_ret;exact⟨rfl,rfl⟩
theorem jumpWhen_any(f:Nat)(v:Bool)(w:World):Calls Tryz.prog 128 #[.func (.func f) #[] #[],.bool v] w fun e w'=>e=.returned (.func (.func 144) #[] #[.pointer (some ⟨w.heap.size,0,none⟩),.pointer (some ⟨w.heap.size+1,0,none⟩)])/\w'=((w.alloc (.cells #[.func (.func f) #[] #[]] 150)).alloc (.cells #[.bool v] 4)):=by
 go_enter Tryz.func128,Tryz.ntmps128;go_wp2;go_ret;exact⟨rfl,rfl⟩
theorem step_append_own{P:Program}{ops:Array Oper}{o:Oper}{a:Act}{w:World}{K:Act->World->Prop}{Q:Exit->Act->World->Prop}{E:Prop}
 (hg:o.guard=none)(s x:Operand)(t:TypeId)(hop:o.op=Op.call {callee:=Callee.builtin Builtin.append,args:=#[s,x],argTypes:=#[t,t]})(base:Nat)
 (e:TypeId)(i:TypeInfo)(z:Value)(size bytes:Nat)(h1:P.underlying t=some (.slice e))(h2:P.info? e=some i)(h3:i.zero=some z)(h4:i.size=size)(h5:i.bytes=bytes)(h6:z.cells.size=size)(h7:0<size)
 (v:Value)(n:Nat)(olds:List Value)(hs:a.eval s=v)(hown:w.ownsRow base e size v n olds)
 (ad:Addr)(m c:Nat)(news:List Value)(hx:a.eval x=.slice (some ad) m c)(hn:news.length=m*size)(hc:∀j u,news[j]?=some u->w.cell? (ad.add j)=some u)(h1c:∀u∈news,u.oneCell'=true)
 (b1:n+m<=maxLen)(b2:(n+m)*bytes<=140737488355328)(hb:base<=w.heap.size)
 (hK:∀v' w',w'.ownsRow base e size v' (n+m) (olds++news)->w.grownBy w' v.ownBlock->K (a.put o.dst v') w'):
 if Region.wanted o (yielded ops a.tmps)=true then Oper.wp P o a w K Q else E:=by
 have hw:Region.wanted o (yielded ops a.tmps)=true:=by simp[Region.wanted,hg]
 rw[if_pos hw];obtain⟨v',w',hrun,r1,r2,_⟩:=run_append_own (P:=P) w base t o.type e i z size bytes h1 h2 h3 h4 h5 h6 h7 v n olds hown ad m c news hn hc h1c b1 b2 hb;unfold Oper.wp;simp[execOp,hop,resolve,invoke,builtin,hs,hx,hrun,Result.andThen];exact hK v' w' r1 r2
end Go.Proofs.YtbahofiiaodpdaaGreat
