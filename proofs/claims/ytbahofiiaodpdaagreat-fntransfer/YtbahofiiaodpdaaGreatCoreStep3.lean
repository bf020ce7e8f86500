import Derived.Test.YtbahofiiaodpdaaGreatOfCoreStep2
namespace Go.Proofs.YtbahofiiaodpdaaGreat
open Go.RowKit
theorem ins_shift{op d a b imm h:Int}(hi:implIns op d a b imm h=true)(ho:op=12∨op=13):0<=imm/\imm<=63:=by
 rcases ho with rfl|rfl;all_goals
  unfold implIns at hi;simp only[Bool.and_eq_true]at hi;obtain⟨⟨_,h5⟩,_⟩:=hi;first
   |(have e:bitB 12 8=true:=by decide+kernel
     rw[e]at h5;simpa[fieldB,inB,immLo,immHi]using h5)
   |(have e:bitB 13 8=true:=by decide+kernel
     rw[e]at h5;simpa[fieldB,inB,immLo,immHi]using h5)
theorem Tab.one{w:World}{base:Nat}{tab:List Value}(h:Tab w base tab){op f bF ty:Nat}{u:Value}(o1:1<=op)(o2:op<=34)(hv:tab[op]?=some (.func (.func f) #[] #[.pointer (some ⟨bF,0,none⟩)]))(he:ent op=.one f u ty):Cell1 w bF u ty:=by
 obtain⟨v,hv',hq⟩:=h.2 op o1 o2;rw[hv]at hv';obtain rfl:=Option.some.inj hv';rw[he]at hq;obtain⟨_,b,_,hc,hv⟩:=hq;simp only[Value.func.injEq,Array.mk.injEq,List.cons.injEq,Value.pointer.injEq,Option.some.injEq,Addr.mk.injEq,and_true,true_and]at hv;rw[hv];exact hc
theorem Tab.two{w:World}{base:Nat}{tab:List Value}(h:Tab w base tab){op f bF bW ty ty':Nat}{u u':Value}(o1:1<=op)(o2:op<=34)(hv:tab[op]?=some (.func (.func f) #[] #[.pointer (some ⟨bF,0,none⟩),.pointer (some ⟨bW,0,none⟩)]))(he:ent op=.two f u ty u' ty'):Cell1 w bF u ty/\Cell1 w bW u' ty':=by
 obtain⟨v,hv',hq⟩:=h.2 op o1 o2;rw[hv]at hv';obtain rfl:=Option.some.inj hv';rw[he]at hq;obtain⟨_,_,b,b',_,_,hc,hc',hv⟩:=hq;simp only[Value.func.injEq,Array.mk.injEq,List.cons.injEq,Value.pointer.injEq,Option.some.injEq,Addr.mk.injEq,and_true,true_and]at hv;rw[hv.1,hv.2];exact⟨hc,hc'⟩
section
variable{w:World}{base bC:Nat}{p:Pl}{nx:Int}{tab:List Value}{M:MV}
def SA(w:World)(base bC:Nat)(p:Pl)(nx:Int)(tab:List Value)(M:MV)(k:Nat):Prop:=
 ∀(_:Core w base bC p nx tab M)(_:M.Ok)(b off len cap q:Nat)(F:Nat->Nat->Int)(_:M.pc=q)(_:q<len)(_:len<=2000)(_:At w b off (len*6) (insF F))(d a b' h:Nat)(imm:Int)(_:F q 0=((k:Nat):Int))(_:F q 1=d)(_:F q 2=a)(_:F q 3=b')(_:F q 4=imm)(_:F q 5=h)(_:M.nO<=1048576)(_:d<8)(_:a<8)(_:b'<8)(_:((k:Nat)=12∨(k:Nat)=13)->0<=imm/\imm<=63)(v:Value)(_:tab[k]?=some v)(_:EntOK w base v (ent k)),Calls Tryz.prog 41 #[.pointer (some ⟨bC,0,none⟩),.slice (some ⟨b,off,none⟩) len cap] w fun e w'=>e=.returned (.tuple #[])/\Below base w w'/\∃p' nx',Core w' base bC p' nx' tab (match exec k d a b' h imm M (M.pc+1)with
  |.inl (M',nx)=>{M' with pc:=nx}
  |.inr M'=>M'.fault)
theorem step_1:SA w base bC p nx tab M 1:=by
 intro h0 hk b off len cap q F hq hql hl hat d a b' h imm f0 f1 f2 f3 f4 f5 _hn hd ha _hb _hsh v hv he;exact step_in h0 b off len cap q F hq hql hl hat 1 d a b' h imm f0 f1 f2 f3 f4 f5 (by omega) v hv 102 #[] he (by intro _ _;go_simp) (fun w' hc=>op_mov hc hk _ d a b' h imm hd ha)
theorem step_2:SA w base bC p nx tab M 2:=by
 intro h0 hk b off len cap q F hq hql hl hat d a b' h imm f0 f1 f2 f3 f4 f5 _hn hd _ha _hb _hsh v hv he;exact step_in h0 b off len cap q F hq hql hl hat 2 d a b' h imm f0 f1 f2 f3 f4 f5 (by omega) v hv 103 #[] he (by intro _ _;go_simp) (fun w' hc=>op_movi hc hk _ d a b' h imm hd)
theorem step_3:SA w base bC p nx tab M 3:=by
 intro h0 hk b off len cap q F hq hql hl hat d a b' h imm f0 f1 f2 f3 f4 f5 _hn hd ha hb _hsh v hv he;obtain⟨_,bF,_,_,rfl⟩:=he;exact step_in h0 b off len cap q F hq hql hl hat 3 d a b' h imm f0 f1 f2 f3 f4 f5 (by omega) _ hv 134 _ rfl (by intro _ _;go_simp) (fun w' hc=>op_reg_sum hc hk _ d a b' h imm hd ha hb (hc.tab.one (by omega) (by omega) hv rfl).cell (hc.tab.one (by omega) (by omega) hv rfl).lt)
theorem step_4:SA w base bC p nx tab M 4:=by
 intro h0 hk b off len cap q F hq hql hl hat d a b' h imm f0 f1 f2 f3 f4 f5 _hn hd ha hb _hsh v hv he;obtain⟨_,bF,_,_,rfl⟩:=he;exact step_in h0 b off len cap q F hq hql hl hat 4 d a b' h imm f0 f1 f2 f3 f4 f5 (by omega) _ hv 134 _ rfl (by intro _ _;go_simp) (fun w' hc=>op_reg_difference hc hk _ d a b' h imm hd ha hb (hc.tab.one (by omega) (by omega) hv rfl).cell (hc.tab.one (by omega) (by omega) hv rfl).lt)
theorem step_5:SA w base bC p nx tab M 5:=by
 intro h0 hk b off len cap q F hq hql hl hat d a b' h imm f0 f1 f2 f3 f4 f5 _hn hd ha hb _hsh v hv he;obtain⟨_,bF,_,_,rfl⟩:=he;exact step_in h0 b off len cap q F hq hql hl hat 5 d a b' h imm f0 f1 f2 f3 f4 f5 (by omega) _ hv 134 _ rfl (by intro _ _;go_simp) (fun w' hc=>op_reg_product hc hk _ d a b' h imm hd ha hb (hc.tab.one (by omega) (by omega) hv rfl).cell (hc.tab.one (by omega) (by omega) hv rfl).lt)
theorem step_6:SA w base bC p nx tab M 6:=by
 intro h0 hk b off len cap q F hq hql hl hat d a b' h imm f0 f1 f2 f3 f4 f5 _hn hd ha hb _hsh v hv he;obtain⟨_,bF,_,_,rfl⟩:=he;exact step_in h0 b off len cap q F hq hql hl hat 6 d a b' h imm f0 f1 f2 f3 f4 f5 (by omega) _ hv 134 _ rfl (by intro _ _;go_simp) (fun w' hc=>op_reg_bothBits hc hk _ d a b' h imm hd ha hb (hc.tab.one (by omega) (by omega) hv rfl).cell (hc.tab.one (by omega) (by omega) hv rfl).lt)
theorem step_7:SA w base bC p nx tab M 7:=by
 intro h0 hk b off len cap q F hq hql hl hat d a b' h imm f0 f1 f2 f3 f4 f5 _hn hd ha hb _hsh v hv he;obtain⟨_,bF,_,_,rfl⟩:=he;exact step_in h0 b off len cap q F hq hql hl hat 7 d a b' h imm f0 f1 f2 f3 f4 f5 (by omega) _ hv 134 _ rfl (by intro _ _;go_simp) (fun w' hc=>op_reg_eitherBits hc hk _ d a b' h imm hd ha hb (hc.tab.one (by omega) (by omega) hv rfl).cell (hc.tab.one (by omega) (by omega) hv rfl).lt)
theorem step_8:SA w base bC p nx tab M 8:=by
 intro h0 hk b off len cap q F hq hql hl hat d a b' h imm f0 f1 f2 f3 f4 f5 _hn hd ha hb _hsh v hv he;obtain⟨_,bF,_,_,rfl⟩:=he;exact step_in h0 b off len cap q F hq hql hl hat 8 d a b' h imm f0 f1 f2 f3 f4 f5 (by omega) _ hv 134 _ rfl (by intro _ _;go_simp) (fun w' hc=>op_reg_oneBits hc hk _ d a b' h imm hd ha hb (hc.tab.one (by omega) (by omega) hv rfl).cell (hc.tab.one (by omega) (by omega) hv rfl).lt)
theorem step_9:SA w base bC p nx tab M 9:=by
 intro h0 hk b off len cap q F hq hql hl hat d a b' h imm f0 f1 f2 f3 f4 f5 hn hd ha hb _hsh v hv he;exact step_in h0 b off len cap q F hq hql hl hat 9 d a b' h imm f0 f1 f2 f3 f4 f5 (by omega) v hv 111 #[] he (by intro _ _;go_simp) (fun w' hc=>op_div hc hk _ d a b' h imm hn hd ha hb)
theorem step_10:SA w base bC p nx tab M 10:=by
 intro h0 hk b off len cap q F hq hql hl hat d a b' h imm f0 f1 f2 f3 f4 f5 _hn hd ha _hb _hsh v hv he;obtain⟨_,bF,_,_,rfl⟩:=he;exact step_in h0 b off len cap q F hq hql hl hat 10 d a b' h imm f0 f1 f2 f3 f4 f5 (by omega) _ hv 136 _ rfl (by intro _ _;go_simp) (fun w' hc=>op_num_sum hc hk _ d a b' h imm hd ha (hc.tab.one (by omega) (by omega) hv rfl).cell (hc.tab.one (by omega) (by omega) hv rfl).lt)
theorem step_11:SA w base bC p nx tab M 11:=by
 intro h0 hk b off len cap q F hq hql hl hat d a b' h imm f0 f1 f2 f3 f4 f5 _hn hd ha _hb _hsh v hv he;obtain⟨_,bF,_,_,rfl⟩:=he;exact step_in h0 b off len cap q F hq hql hl hat 11 d a b' h imm f0 f1 f2 f3 f4 f5 (by omega) _ hv 136 _ rfl (by intro _ _;go_simp) (fun w' hc=>op_num_bothBits hc hk _ d a b' h imm hd ha (hc.tab.one (by omega) (by omega) hv rfl).cell (hc.tab.one (by omega) (by omega) hv rfl).lt)
theorem step_12:SA w base bC p nx tab M 12:=by
 intro h0 hk b off len cap q F hq hql hl hat d a b' h imm f0 f1 f2 f3 f4 f5 _hn hd ha _hb hsh v hv he;obtain⟨_,bF,_,_,rfl⟩:=he;exact step_in h0 b off len cap q F hq hql hl hat 12 d a b' h imm f0 f1 f2 f3 f4 f5 (by omega) _ hv 136 _ rfl (by intro _ _;go_simp) (fun w' hc=>op_num_shiftLeft hc hk _ d a b' h imm hd ha (hsh (.inl rfl)).1 (hsh (.inl rfl)).2 (hc.tab.one (by omega) (by omega) hv rfl).cell (hc.tab.one (by omega) (by omega) hv rfl).lt)
theorem step_13:SA w base bC p nx tab M 13:=by
 intro h0 hk b off len cap q F hq hql hl hat d a b' h imm f0 f1 f2 f3 f4 f5 _hn hd ha _hb hsh v hv he;obtain⟨_,bF,_,_,rfl⟩:=he;exact step_in h0 b off len cap q F hq hql hl hat 13 d a b' h imm f0 f1 f2 f3 f4 f5 (by omega) _ hv 136 _ rfl (by intro _ _;go_simp) (fun w' hc=>op_num_shiftRight hc hk _ d a b' h imm hd ha (hsh (.inr rfl)).1 (hsh (.inr rfl)).2 (hc.tab.one (by omega) (by omega) hv rfl).cell (hc.tab.one (by omega) (by omega) hv rfl).lt)
theorem step_14:SA w base bC p nx tab M 14:=by
 intro h0 hk b off len cap q F hq hql hl hat d a b' h imm f0 f1 f2 f3 f4 f5 _hn hd ha hb _hsh v hv he;exact step_in h0 b off len cap q F hq hql hl hat 14 d a b' h imm f0 f1 f2 f3 f4 f5 (by omega) v hv 115 #[] he (by intro _ _;go_simp) (fun w' hc=>op_adds hc hk _ d a b' h imm hd ha hb)
theorem step_15:SA w base bC p nx tab M 15:=by
 intro h0 hk b off len cap q F hq hql hl hat d a b' h imm f0 f1 f2 f3 f4 f5 _hn hd ha hb _hsh v hv he;exact step_in h0 b off len cap q F hq hql hl hat 15 d a b' h imm f0 f1 f2 f3 f4 f5 (by omega) v hv 116 #[] he (by intro _ _;go_simp) (fun w' hc=>op_adc hc hk _ d a b' h imm hd ha hb)
theorem step_16:SA w base bC p nx tab M 16:=by
 intro h0 hk b off len cap q F hq hql hl hat d a b' h imm f0 f1 f2 f3 f4 f5 _hn hd ha hb _hsh v hv he;exact step_in h0 b off len cap q F hq hql hl hat 16 d a b' h imm f0 f1 f2 f3 f4 f5 (by omega) v hv 117 #[] he (by intro _ _;go_simp) (fun w' hc=>op_subs hc hk _ d a b' h imm hd ha hb)
theorem step_17:SA w base bC p nx tab M 17:=by
 intro h0 hk b off len cap q F hq hql hl hat d a b' h imm f0 f1 f2 f3 f4 f5 _hn _hd ha hb _hsh v hv he;exact step_in h0 b off len cap q F hq hql hl hat 17 d a b' h imm f0 f1 f2 f3 f4 f5 (by omega) v hv 118 #[] he (by intro _ _;go_simp) (fun w' hc=>op_cmp hc hk _ d a b' h imm ha hb)
theorem step_18:SA w base bC p nx tab M 18:=by
 intro h0 hk b off len cap q F hq hql hl hat d a b' h imm f0 f1 f2 f3 f4 f5 _hn _hd ha _hb _hsh v hv he;exact step_in h0 b off len cap q F hq hql hl hat 18 d a b' h imm f0 f1 f2 f3 f4 f5 (by omega) v hv 119 #[] he (by intro _ _;go_simp) (fun w' hc=>op_cmpi hc hk _ d a b' h imm ha)
theorem step_19:SA w base bC p nx tab M 19:=by
 intro h0 hk b off len cap q F hq hql hl hat d a b' h imm f0 f1 f2 f3 f4 f5 _hn hd ha hb _hsh v hv he;obtain⟨_,bF,_,_,rfl⟩:=he;exact step_in h0 b off len cap q F hq hql hl hat 19 d a b' h imm f0 f1 f2 f3 f4 f5 (by omega) _ hv 139 _ rfl (by intro _ _;go_simp) (fun w' hc=>op_selz hc hk _ d a b' h imm hd ha hb (hc.tab.one (by omega) (by omega) hv rfl).cell (hc.tab.one (by omega) (by omega) hv rfl).lt)
theorem step_20:SA w base bC p nx tab M 20:=by
 intro h0 hk b off len cap q F hq hql hl hat d a b' h imm f0 f1 f2 f3 f4 f5 _hn hd ha hb _hsh v hv he;obtain⟨_,bF,_,_,rfl⟩:=he;exact step_in h0 b off len cap q F hq hql hl hat 20 d a b' h imm f0 f1 f2 f3 f4 f5 (by omega) _ hv 139 _ rfl (by intro _ _;go_simp) (fun w' hc=>op_selc hc hk _ d a b' h imm hd ha hb (hc.tab.one (by omega) (by omega) hv rfl).cell (hc.tab.one (by omega) (by omega) hv rfl).lt)
theorem step_21:SA w base bC p nx tab M 21:=by
 intro h0 hk b off len cap q F hq hql hl hat d a b' h imm f0 f1 f2 f3 f4 f5 hn hd ha _hb _hsh v hv he;obtain⟨_,_,bF,bW,_,_,_,_,rfl⟩:=he;exact step_in h0 b off len cap q F hq hql hl hat 21 d a b' h imm f0 f1 f2 f3 f4 f5 (by omega) _ hv 141 _ rfl (by intro _ _;go_simp) (fun w' hc=>op_loadN hc hk _ d a b' h imm 1 (by omega) (by omega) hn hd ha (hc.tab.two (by omega) (by omega) hv rfl).1 (hc.tab.two (by omega) (by omega) hv rfl).2)
theorem step_22:SA w base bC p nx tab M 22:=by
 intro h0 hk b off len cap q F hq hql hl hat d a b' h imm f0 f1 f2 f3 f4 f5 hn hd ha _hb _hsh v hv he;obtain⟨_,_,bF,bW,_,_,_,_,rfl⟩:=he;exact step_in h0 b off len cap q F hq hql hl hat 22 d a b' h imm f0 f1 f2 f3 f4 f5 (by omega) _ hv 141 _ rfl (by intro _ _;go_simp) (fun w' hc=>op_loadN hc hk _ d a b' h imm 8 (by omega) (by omega) hn hd ha (hc.tab.two (by omega) (by omega) hv rfl).1 (hc.tab.two (by omega) (by omega) hv rfl).2)
theorem step_23:SA w base bC p nx tab M 23:=by
 intro h0 hk b off len cap q F hq hql hl hat d a b' h imm f0 f1 f2 f3 f4 f5 hn hd ha _hb _hsh v hv he;obtain⟨_,_,bF,bW,_,_,_,_,rfl⟩:=he;exact step_in h0 b off len cap q F hq hql hl hat 23 d a b' h imm f0 f1 f2 f3 f4 f5 (by omega) _ hv 143 _ rfl (by intro _ _;go_simp) (fun w' hc=>op_storeN hc hk _ d a b' h imm 1 (by omega) (by omega) hn hd ha (hc.tab.two (by omega) (by omega) hv rfl).1 (hc.tab.two (by omega) (by omega) hv rfl).2)
theorem step_24:SA w base bC p nx tab M 24:=by
 intro h0 hk b off len cap q F hq hql hl hat d a b' h imm f0 f1 f2 f3 f4 f5 hn hd ha _hb _hsh v hv he;obtain⟨_,_,bF,bW,_,_,_,_,rfl⟩:=he;exact step_in h0 b off len cap q F hq hql hl hat 24 d a b' h imm f0 f1 f2 f3 f4 f5 (by omega) _ hv 143 _ rfl (by intro _ _;go_simp) (fun w' hc=>op_storeN hc hk _ d a b' h imm 8 (by omega) (by omega) hn hd ha (hc.tab.two (by omega) (by omega) hv rfl).1 (hc.tab.two (by omega) (by omega) hv rfl).2)
theorem step_25:SA w base bC p nx tab M 25:=by
 intro h0 hk b off len cap q F hq hql hl hat d a b' h imm f0 f1 f2 f3 f4 f5 hn hd ha hb _hsh v hv he;obtain⟨_,_,bF,bW,_,_,_,_,rfl⟩:=he;exact step_in h0 b off len cap q F hq hql hl hat 25 d a b' h imm f0 f1 f2 f3 f4 f5 (by omega) _ hv 141 _ rfl (by intro _ _;go_simp) (fun w' hc=>op_loadX hc hk _ d a b' h imm 1 (by omega) (by omega) hn hd ha hb (hc.tab.two (by omega) (by omega) hv rfl).1 (hc.tab.two (by omega) (by omega) hv rfl).2)
theorem step_26:SA w base bC p nx tab M 26:=by
 intro h0 hk b off len cap q F hq hql hl hat d a b' h imm f0 f1 f2 f3 f4 f5 hn hd ha hb _hsh v hv he;obtain⟨_,_,bF,bW,_,_,_,_,rfl⟩:=he;exact step_in h0 b off len cap q F hq hql hl hat 26 d a b' h imm f0 f1 f2 f3 f4 f5 (by omega) _ hv 141 _ rfl (by intro _ _;go_simp) (fun w' hc=>op_loadX hc hk _ d a b' h imm 8 (by omega) (by omega) hn hd ha hb (hc.tab.two (by omega) (by omega) hv rfl).1 (hc.tab.two (by omega) (by omega) hv rfl).2)
theorem step_27:SA w base bC p nx tab M 27:=by
 intro h0 hk b off len cap q F hq hql hl hat d a b' h imm f0 f1 f2 f3 f4 f5 hn hd ha hb _hsh v hv he;obtain⟨_,_,bF,bW,_,_,_,_,rfl⟩:=he;exact step_in h0 b off len cap q F hq hql hl hat 27 d a b' h imm f0 f1 f2 f3 f4 f5 (by omega) _ hv 143 _ rfl (by intro _ _;go_simp) (fun w' hc=>op_storeX hc hk _ d a b' h imm 1 (by omega) (by omega) hn hd ha hb (hc.tab.two (by omega) (by omega) hv rfl).1 (hc.tab.two (by omega) (by omega) hv rfl).2)
theorem step_28:SA w base bC p nx tab M 28:=by
 intro h0 hk b off len cap q F hq hql hl hat d a b' h imm f0 f1 f2 f3 f4 f5 hn hd ha hb _hsh v hv he;obtain⟨_,_,bF,bW,_,_,_,_,rfl⟩:=he;exact step_in h0 b off len cap q F hq hql hl hat 28 d a b' h imm f0 f1 f2 f3 f4 f5 (by omega) _ hv 143 _ rfl (by intro _ _;go_simp) (fun w' hc=>op_storeX hc hk _ d a b' h imm 8 (by omega) (by omega) hn hd ha hb (hc.tab.two (by omega) (by omega) hv rfl).1 (hc.tab.two (by omega) (by omega) hv rfl).2)
theorem step_29:SA w base bC p nx tab M 29:=by
 intro h0 hk b off len cap q F hq hql hl hat d a b' h imm f0 f1 f2 f3 f4 f5 _hn _hd _ha _hb _hsh v hv he;exact step_in h0 b off len cap q F hq hql hl hat 29 d a b' h imm f0 f1 f2 f3 f4 f5 (by omega) v hv 127 #[] he (by intro _ _;go_simp) (fun w' hc=>op_jmp hc hk _ d a b' h imm)
theorem step_30:SA w base bC p nx tab M 30:=by
 intro h0 hk b off len cap q F hq hql hl hat d a b' h imm f0 f1 f2 f3 f4 f5 hn _hd _ha _hb _hsh v hv he;obtain⟨_,_,bF,bW,_,_,_,_,rfl⟩:=he;exact step_in h0 b off len cap q F hq hql hl hat 30 d a b' h imm f0 f1 f2 f3 f4 f5 (by omega) _ hv 144 _ rfl (by intro _ _;go_simp) (fun w' hc=>op_jumpz_true hc hk _ d a b' h imm hn (hc.tab.two (by omega) (by omega) hv rfl).1.cell (hc.tab.two (by omega) (by omega) hv rfl).1.lt (hc.tab.two (by omega) (by omega) hv rfl).2.cell (hc.tab.two (by omega) (by omega) hv rfl).2.lt)
theorem step_31:SA w base bC p nx tab M 31:=by
 intro h0 hk b off len cap q F hq hql hl hat d a b' h imm f0 f1 f2 f3 f4 f5 hn _hd _ha _hb _hsh v hv he;obtain⟨_,_,bF,bW,_,_,_,_,rfl⟩:=he;exact step_in h0 b off len cap q F hq hql hl hat 31 d a b' h imm f0 f1 f2 f3 f4 f5 (by omega) _ hv 144 _ rfl (by intro _ _;go_simp) (fun w' hc=>op_jumpz_false hc hk _ d a b' h imm hn (hc.tab.two (by omega) (by omega) hv rfl).1.cell (hc.tab.two (by omega) (by omega) hv rfl).1.lt (hc.tab.two (by omega) (by omega) hv rfl).2.cell (hc.tab.two (by omega) (by omega) hv rfl).2.lt)
theorem step_32:SA w base bC p nx tab M 32:=by
 intro h0 hk b off len cap q F hq hql hl hat d a b' h imm f0 f1 f2 f3 f4 f5 hn _hd _ha _hb _hsh v hv he;obtain⟨_,_,bF,bW,_,_,_,_,rfl⟩:=he;exact step_in h0 b off len cap q F hq hql hl hat 32 d a b' h imm f0 f1 f2 f3 f4 f5 (by omega) _ hv 144 _ rfl (by intro _ _;go_simp) (fun w' hc=>op_jumpc_true hc hk _ d a b' h imm hn (hc.tab.two (by omega) (by omega) hv rfl).1.cell (hc.tab.two (by omega) (by omega) hv rfl).1.lt (hc.tab.two (by omega) (by omega) hv rfl).2.cell (hc.tab.two (by omega) (by omega) hv rfl).2.lt)
theorem step_33:SA w base bC p nx tab M 33:=by
 intro h0 hk b off len cap q F hq hql hl hat d a b' h imm f0 f1 f2 f3 f4 f5 hn _hd _ha _hb _hsh v hv he;obtain⟨_,_,bF,bW,_,_,_,_,rfl⟩:=he;exact step_in h0 b off len cap q F hq hql hl hat 33 d a b' h imm f0 f1 f2 f3 f4 f5 (by omega) _ hv 144 _ rfl (by intro _ _;go_simp) (fun w' hc=>op_jumpc_false hc hk _ d a b' h imm hn (hc.tab.two (by omega) (by omega) hv rfl).1.cell (hc.tab.two (by omega) (by omega) hv rfl).1.lt (hc.tab.two (by omega) (by omega) hv rfl).2.cell (hc.tab.two (by omega) (by omega) hv rfl).2.lt)
theorem step_34:SA w base bC p nx tab M 34:=by
 intro h0 hk b off len cap q F hq hql hl hat d a b' h imm f0 f1 f2 f3 f4 f5 _hn _hd _ha _hb _hsh v hv he;exact step_in h0 b off len cap q F hq hql hl hat 34 d a b' h imm f0 f1 f2 f3 f4 f5 (by omega) v hv 129 #[] he (by intro _ _;go_simp) (fun w' hc=>op_halt hc hk _ d a b' h imm)
theorem step_any(h0:Core w base bC p nx tab M)(hk:M.Ok)(hn:M.nO<=1048576)(pc0:0<=M.pc)(b off len cap:Nat)(F:Nat->Nat->Int)(hat:At w b off (len*6) (insF F))(hf:flatOK len F=true):
 Calls Tryz.prog 41 #[.pointer (some ⟨bC,0,none⟩),.slice (some ⟨b,off,none⟩) len cap] w fun e w'=>e=.returned (.tuple #[])/\Below base w w'/\∃p' nx',Core w' base bC p' nx' tab (stepM len F M):=by
 by_cases hpc:(len:Int)<=M.pc
 ·exact step_out h0 _ len cap F hpc
 ·obtain⟨q,hq⟩:=Int.eq_ofNat_of_zero_le pc0
  have hql:q<len:=by omega
  have hl:len<=2000/\insOK F q=true:=by
   unfold flatOK at hf;simp only[Bool.and_eq_true,decide_eq_true_eq,List.all_eq_true,List.mem_range]at hf;refine⟨hf.1.1.2,?_⟩;have:=hf.1.2 q hql;unfold flatAt at this;simp only[Bool.and_eq_true]at this;exact this.1
  obtain⟨hl,hi⟩:=hl;unfold insOK at hi;have hs:=fun ho=>ins_shift hi ho
  obtain⟨⟨a1,a2⟩,⟨d1,d2⟩,⟨x1,x2⟩,⟨y1,y2⟩,⟨z1,z2⟩⟩:=ins_range hi;obtain⟨op,f0⟩:=Int.eq_ofNat_of_zero_le (show 0<=F q 0 by omega);obtain⟨d,f1⟩:=Int.eq_ofNat_of_zero_le d1;obtain⟨a,f2⟩:=Int.eq_ofNat_of_zero_le x1;obtain⟨b',f3⟩:=Int.eq_ofNat_of_zero_le y1;obtain⟨h,f5⟩:=Int.eq_ofNat_of_zero_le z1;have o1:1<=op:=by omega
  have o2:op<=34:=by omega
  obtain⟨v,hv,he⟩:=h0.tab.2 op o1 o2;have hsh:(op=12∨op=13)->0<=F q 4/\F q 4<=63:=fun ho=>hs (by omega)
  have hd:d<8:=by omega
  have ha:a<8:=by omega
  have hb:b'<8:=by omega
  unfold stepM;rw[if_neg hpc,show M.pc.toNat=q by omega,f0,f1,f2,f3,f5,Int.toNat_natCast,Int.toNat_natCast,Int.toNat_natCast,Int.toNat_natCast,Int.toNat_natCast];have hc:op=1∨op=2∨op=3∨op=4∨op=5∨op=6∨op=7∨op=8∨op=9∨op=10∨op=11∨op=12∨op=13∨op=14∨op=15∨op=16∨op=17∨op=18∨op=19∨op=20∨op=21∨op=22∨op=23∨op=24∨op=25∨op=26∨op=27∨op=28∨op=29∨op=30∨op=31∨op=32∨op=33∨op=34:=by omega
  rcases hc with rfl|rfl|rfl|rfl|rfl|rfl|rfl|rfl|rfl|rfl|rfl|rfl|rfl|rfl|rfl|rfl|rfl|rfl|rfl|rfl|rfl|rfl|rfl|rfl|rfl|rfl|rfl|rfl|rfl|rfl|rfl|rfl|rfl|rfl
  ·exact step_1 h0 hk b off len cap q F hq hql hl hat d a b' h (F q 4) f0 f1 f2 f3 rfl f5 hn hd ha hb hsh v hv he
  ·exact step_2 h0 hk b off len cap q F hq hql hl hat d a b' h (F q 4) f0 f1 f2 f3 rfl f5 hn hd ha hb hsh v hv he
  ·exact step_3 h0 hk b off len cap q F hq hql hl hat d a b' h (F q 4) f0 f1 f2 f3 rfl f5 hn hd ha hb hsh v hv he
  ·exact step_4 h0 hk b off len cap q F hq hql hl hat d a b' h (F q 4) f0 f1 f2 f3 rfl f5 hn hd ha hb hsh v hv he
  ·exact step_5 h0 hk b off len cap q F hq hql hl hat d a b' h (F q 4) f0 f1 f2 f3 rfl f5 hn hd ha hb hsh v hv he
  ·exact step_6 h0 hk b off len cap q F hq hql hl hat d a b' h (F q 4) f0 f1 f2 f3 rfl f5 hn hd ha hb hsh v hv he
  ·exact step_7 h0 hk b off len cap q F hq hql hl hat d a b' h (F q 4) f0 f1 f2 f3 rfl f5 hn hd ha hb hsh v hv he
  ·exact step_8 h0 hk b off len cap q F hq hql hl hat d a b' h (F q 4) f0 f1 f2 f3 rfl f5 hn hd ha hb hsh v hv he
  ·exact step_9 h0 hk b off len cap q F hq hql hl hat d a b' h (F q 4) f0 f1 f2 f3 rfl f5 hn hd ha hb hsh v hv he
  ·exact step_10 h0 hk b off len cap q F hq hql hl hat d a b' h (F q 4) f0 f1 f2 f3 rfl f5 hn hd ha hb hsh v hv he
  ·exact step_11 h0 hk b off len cap q F hq hql hl hat d a b' h (F q 4) f0 f1 f2 f3 rfl f5 hn hd ha hb hsh v hv he
  ·exact step_12 h0 hk b off len cap q F hq hql hl hat d a b' h (F q 4) f0 f1 f2 f3 rfl f5 hn hd ha hb hsh v hv he
  ·exact step_13 h0 hk b off len cap q F hq hql hl hat d a b' h (F q 4) f0 f1 f2 f3 rfl f5 hn hd ha hb hsh v hv he
  ·exact step_14 h0 hk b off len cap q F hq hql hl hat d a b' h (F q 4) f0 f1 f2 f3 rfl f5 hn hd ha hb hsh v hv he
  ·exact step_15 h0 hk b off len cap q F hq hql hl hat d a b' h (F q 4) f0 f1 f2 f3 rfl f5 hn hd ha hb hsh v hv he
  ·exact step_16 h0 hk b off len cap q F hq hql hl hat d a b' h (F q 4) f0 f1 f2 f3 rfl f5 hn hd ha hb hsh v hv he
  ·exact step_17 h0 hk b off len cap q F hq hql hl hat d a b' h (F q 4) f0 f1 f2 f3 rfl f5 hn hd ha hb hsh v hv he
  ·exact step_18 h0 hk b off len cap q F hq hql hl hat d a b' h (F q 4) f0 f1 f2 f3 rfl f5 hn hd ha hb hsh v hv he
  ·exact step_19 h0 hk b off len cap q F hq hql hl hat d a b' h (F q 4) f0 f1 f2 f3 rfl f5 hn hd ha hb hsh v hv he
  ·exact step_20 h0 hk b off len cap q F hq hql hl hat d a b' h (F q 4) f0 f1 f2 f3 rfl f5 hn hd ha hb hsh v hv he
  ·exact step_21 h0 hk b off len cap q F hq hql hl hat d a b' h (F q 4) f0 f1 f2 f3 rfl f5 hn hd ha hb hsh v hv he
  ·exact step_22 h0 hk b off len cap q F hq hql hl hat d a b' h (F q 4) f0 f1 f2 f3 rfl f5 hn hd ha hb hsh v hv he
  ·exact step_23 h0 hk b off len cap q F hq hql hl hat d a b' h (F q 4) f0 f1 f2 f3 rfl f5 hn hd ha hb hsh v hv he
  ·exact step_24 h0 hk b off len cap q F hq hql hl hat d a b' h (F q 4) f0 f1 f2 f3 rfl f5 hn hd ha hb hsh v hv he
  ·exact step_25 h0 hk b off len cap q F hq hql hl hat d a b' h (F q 4) f0 f1 f2 f3 rfl f5 hn hd ha hb hsh v hv he
  ·exact step_26 h0 hk b off len cap q F hq hql hl hat d a b' h (F q 4) f0 f1 f2 f3 rfl f5 hn hd ha hb hsh v hv he
  ·exact step_27 h0 hk b off len cap q F hq hql hl hat d a b' h (F q 4) f0 f1 f2 f3 rfl f5 hn hd ha hb hsh v hv he
  ·exact step_28 h0 hk b off len cap q F hq hql hl hat d a b' h (F q 4) f0 f1 f2 f3 rfl f5 hn hd ha hb hsh v hv he
  ·exact step_29 h0 hk b off len cap q F hq hql hl hat d a b' h (F q 4) f0 f1 f2 f3 rfl f5 hn hd ha hb hsh v hv he
  ·exact step_30 h0 hk b off len cap q F hq hql hl hat d a b' h (F q 4) f0 f1 f2 f3 rfl f5 hn hd ha hb hsh v hv he
  ·exact step_31 h0 hk b off len cap q F hq hql hl hat d a b' h (F q 4) f0 f1 f2 f3 rfl f5 hn hd ha hb hsh v hv he
  ·exact step_32 h0 hk b off len cap q F hq hql hl hat d a b' h (F q 4) f0 f1 f2 f3 rfl f5 hn hd ha hb hsh v hv he
  ·exact step_33 h0 hk b off len cap q F hq hql hl hat d a b' h (F q 4) f0 f1 f2 f3 rfl f5 hn hd ha hb hsh v hv he
  ·exact step_34 h0 hk b off len cap q F hq hql hl hat d a b' h (F q 4) f0 f1 f2 f3 rfl f5 hn hd ha hb hsh v hv he
end
end Go.Proofs.YtbahofiiaodpdaaGreat
