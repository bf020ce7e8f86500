import Derived.Test.YtpbceodheeepoaaGreatOfCoreStep2
namespace Go.Proofs.YtpbceodheeepoaaGreat
open Go.RowKit
theorem ins_shift{op d a b imm h:Int}(hi:implIns op d a b imm h=true)(ho:op=12∨op=13):0<=imm/\imm<=63:=by
 rcases ho with rfl|rfl;all_goals
  unfold implIns at hi;simp only[Bool.and_eq_true]at hi;obtain⟨⟨_,h5⟩,_⟩:=hi;first
   |(have e:bitB 12 8=true:=by decide+kernel
     rw[e]at h5;simpa[fieldB,inB,immLo,immHi]using h5)
   |(have e:bitB 13 8=true:=by decide+kernel
     rw[e]at h5;simpa[fieldB,inB,immLo,immHi]using h5)
theorem Tab.one{w:World}{base:Nat}{tab:List Value}(h:Tab w base tab){op f bF ty:Nat}{u:Value}(o1:1<=op)(o2:op<=34)(hv:tab[op]?=some (.func (.func f) #[] #[.pointer (some ⟨bF,0,none⟩)]))(he:ent op=.one f u ty):Cell1 w bF u ty:=by
 obtain⟨v,hv',hq⟩:=h.2 op o1 o2;rw[hv]at hv';obtain rfl:=Option.some.inj hv';rw[he]at hq;obtain⟨_,b,_,hc,hv⟩:=hq;simp only[Value.func.injEq,Array.mk.injEq,List.cons.injEq,Value.pointer.injEq,Option.some.injEq,Addr.mk.injEq,and_true,true_and]at hv;rw[hv];exact hc
theorem Tab.two{w:World}{base:Nat}{tab:List Value}(h:Tab w base tab){op f bF bW ty ty':Nat}{u u':Value}(o1:1<=op)(o2:op<=34)(hv:tab[op]?=some (.func (.func f) #[] #[.pointer (some ⟨bF,0,none⟩),.pointer (some ⟨bW,0,none⟩)]))(he:ent op=.two f u ty u' ty'):Cell1 w bF u ty/\Cell1 w bW u' ty':=by
 obtain⟨v,hv',hq⟩:=h.2 op o1 o2;rw[hv]at hv';obtain rfl:=Option.some.inj hv';rw[he]at hq;obtain⟨_,_,b,b',_,_,hc,hc',hv⟩:=hq;simp only[Value.func.injEq,Array.mk.injEq,List.cons.injEq,Value.pointer.injEq,Option.some.injEq,Addr.mk.injEq,and_true,true_and]at hv;rw[hv.1,hv.2];exact⟨hc,hc'⟩
section
variable{w:World}{base bC:Nat}{p:Pl}{nx:Int}{tab:List Value}{M:MV}
theorem step_1(h0:Core w base bC p nx tab M)(hk:M.Ok)(b off len cap q:Nat)(F:Nat->Nat->Int)(hq:M.pc=q)(hql:q<len)(hl:len<=2000)(hat:At w b off (len*6) (insF F))(d a b' h:Nat)(imm:Int)
 (f0:F q 0=((1:Nat):Int))(f1:F q 1=d)(f2:F q 2=a)(f3:F q 3=b')(f4:F q 4=imm)(f5:F q 5=h)(_hn:M.nO<=1048576)(hd:d<8)(ha:a<8)(_hb:b'<8)(_hsh:((1:Nat)=12∨(1:Nat)=13)->0<=imm/\imm<=63)(v:Value)(hv:tab[1]?=some v)(he:EntOK w base v (ent 1)):
 Calls Tryz.prog 31 #[.pointer (some ⟨bC,0,none⟩),.slice (some ⟨b,off,none⟩) len cap] w fun e w'=>e=.returned (.tuple #[])/\Below base w w'/\∃p' nx',Core w' base bC p' nx' tab (match exec 1 d a b' h imm M (M.pc+1)with
 |.inl (M',nx)=>{M' with pc:=nx}
 |.inr M'=>M'.fault):=by
 exact step_in h0 b off len cap q F hq hql hl hat 1 d a b' h imm f0 f1 f2 f3 f4 f5 (by omega) v hv 96 #[] he (by intro _ _;go_simp) (fun w' hc=>op_mov hc hk _ d a b' h imm hd ha)
theorem step_2(h0:Core w base bC p nx tab M)(hk:M.Ok)(b off len cap q:Nat)(F:Nat->Nat->Int)(hq:M.pc=q)(hql:q<len)(hl:len<=2000)(hat:At w b off (len*6) (insF F))(d a b' h:Nat)(imm:Int)
 (f0:F q 0=((2:Nat):Int))(f1:F q 1=d)(f2:F q 2=a)(f3:F q 3=b')(f4:F q 4=imm)(f5:F q 5=h)(_hn:M.nO<=1048576)(hd:d<8)(_ha:a<8)(_hb:b'<8)(_hsh:((2:Nat)=12∨(2:Nat)=13)->0<=imm/\imm<=63)(v:Value)(hv:tab[2]?=some v)(he:EntOK w base v (ent 2)):
 Calls Tryz.prog 31 #[.pointer (some ⟨bC,0,none⟩),.slice (some ⟨b,off,none⟩) len cap] w fun e w'=>e=.returned (.tuple #[])/\Below base w w'/\∃p' nx',Core w' base bC p' nx' tab (match exec 2 d a b' h imm M (M.pc+1)with
 |.inl (M',nx)=>{M' with pc:=nx}
 |.inr M'=>M'.fault):=by
 exact step_in h0 b off len cap q F hq hql hl hat 2 d a b' h imm f0 f1 f2 f3 f4 f5 (by omega) v hv 97 #[] he (by intro _ _;go_simp) (fun w' hc=>op_movi hc hk _ d a b' h imm hd)
theorem step_3(h0:Core w base bC p nx tab M)(hk:M.Ok)(b off len cap q:Nat)(F:Nat->Nat->Int)(hq:M.pc=q)(hql:q<len)(hl:len<=2000)(hat:At w b off (len*6) (insF F))(d a b' h:Nat)(imm:Int)
 (f0:F q 0=((3:Nat):Int))(f1:F q 1=d)(f2:F q 2=a)(f3:F q 3=b')(f4:F q 4=imm)(f5:F q 5=h)(_hn:M.nO<=1048576)(hd:d<8)(ha:a<8)(hb:b'<8)(_hsh:((3:Nat)=12∨(3:Nat)=13)->0<=imm/\imm<=63)(v:Value)(hv:tab[3]?=some v)(he:EntOK w base v (ent 3)):
 Calls Tryz.prog 31 #[.pointer (some ⟨bC,0,none⟩),.slice (some ⟨b,off,none⟩) len cap] w fun e w'=>e=.returned (.tuple #[])/\Below base w w'/\∃p' nx',Core w' base bC p' nx' tab (match exec 3 d a b' h imm M (M.pc+1)with
 |.inl (M',nx)=>{M' with pc:=nx}
 |.inr M'=>M'.fault):=by
 obtain⟨_,bF,_,_,rfl⟩:=he;exact step_in h0 b off len cap q F hq hql hl hat 3 d a b' h imm f0 f1 f2 f3 f4 f5 (by omega) _ hv 132 _ rfl (by intro _ _;go_simp) (fun w' hc=>op_reg_sum hc hk _ d a b' h imm hd ha hb (hc.tab.one (by omega) (by omega) hv rfl).cell (hc.tab.one (by omega) (by omega) hv rfl).lt)
theorem step_4(h0:Core w base bC p nx tab M)(hk:M.Ok)(b off len cap q:Nat)(F:Nat->Nat->Int)(hq:M.pc=q)(hql:q<len)(hl:len<=2000)(hat:At w b off (len*6) (insF F))(d a b' h:Nat)(imm:Int)
 (f0:F q 0=((4:Nat):Int))(f1:F q 1=d)(f2:F q 2=a)(f3:F q 3=b')(f4:F q 4=imm)(f5:F q 5=h)(_hn:M.nO<=1048576)(hd:d<8)(ha:a<8)(hb:b'<8)(_hsh:((4:Nat)=12∨(4:Nat)=13)->0<=imm/\imm<=63)(v:Value)(hv:tab[4]?=some v)(he:EntOK w base v (ent 4)):
 Calls Tryz.prog 31 #[.pointer (some ⟨bC,0,none⟩),.slice (some ⟨b,off,none⟩) len cap] w fun e w'=>e=.returned (.tuple #[])/\Below base w w'/\∃p' nx',Core w' base bC p' nx' tab (match exec 4 d a b' h imm M (M.pc+1)with
 |.inl (M',nx)=>{M' with pc:=nx}
 |.inr M'=>M'.fault):=by
 obtain⟨_,bF,_,_,rfl⟩:=he;exact step_in h0 b off len cap q F hq hql hl hat 4 d a b' h imm f0 f1 f2 f3 f4 f5 (by omega) _ hv 132 _ rfl (by intro _ _;go_simp) (fun w' hc=>op_reg_difference hc hk _ d a b' h imm hd ha hb (hc.tab.one (by omega) (by omega) hv rfl).cell (hc.tab.one (by omega) (by omega) hv rfl).lt)
theorem step_5(h0:Core w base bC p nx tab M)(hk:M.Ok)(b off len cap q:Nat)(F:Nat->Nat->Int)(hq:M.pc=q)(hql:q<len)(hl:len<=2000)(hat:At w b off (len*6) (insF F))(d a b' h:Nat)(imm:Int)
 (f0:F q 0=((5:Nat):Int))(f1:F q 1=d)(f2:F q 2=a)(f3:F q 3=b')(f4:F q 4=imm)(f5:F q 5=h)(_hn:M.nO<=1048576)(hd:d<8)(ha:a<8)(hb:b'<8)(_hsh:((5:Nat)=12∨(5:Nat)=13)->0<=imm/\imm<=63)(v:Value)(hv:tab[5]?=some v)(he:EntOK w base v (ent 5)):
 Calls Tryz.prog 31 #[.pointer (some ⟨bC,0,none⟩),.slice (some ⟨b,off,none⟩) len cap] w fun e w'=>e=.returned (.tuple #[])/\Below base w w'/\∃p' nx',Core w' base bC p' nx' tab (match exec 5 d a b' h imm M (M.pc+1)with
 |.inl (M',nx)=>{M' with pc:=nx}
 |.inr M'=>M'.fault):=by
 obtain⟨_,bF,_,_,rfl⟩:=he;exact step_in h0 b off len cap q F hq hql hl hat 5 d a b' h imm f0 f1 f2 f3 f4 f5 (by omega) _ hv 132 _ rfl (by intro _ _;go_simp) (fun w' hc=>op_reg_product hc hk _ d a b' h imm hd ha hb (hc.tab.one (by omega) (by omega) hv rfl).cell (hc.tab.one (by omega) (by omega) hv rfl).lt)
theorem step_6(h0:Core w base bC p nx tab M)(hk:M.Ok)(b off len cap q:Nat)(F:Nat->Nat->Int)(hq:M.pc=q)(hql:q<len)(hl:len<=2000)(hat:At w b off (len*6) (insF F))(d a b' h:Nat)(imm:Int)
 (f0:F q 0=((6:Nat):Int))(f1:F q 1=d)(f2:F q 2=a)(f3:F q 3=b')(f4:F q 4=imm)(f5:F q 5=h)(_hn:M.nO<=1048576)(hd:d<8)(ha:a<8)(hb:b'<8)(_hsh:((6:Nat)=12∨(6:Nat)=13)->0<=imm/\imm<=63)(v:Value)(hv:tab[6]?=some v)(he:EntOK w base v (ent 6)):
 Calls Tryz.prog 31 #[.pointer (some ⟨bC,0,none⟩),.slice (some ⟨b,off,none⟩) len cap] w fun e w'=>e=.returned (.tuple #[])/\Below base w w'/\∃p' nx',Core w' base bC p' nx' tab (match exec 6 d a b' h imm M (M.pc+1)with
 |.inl (M',nx)=>{M' with pc:=nx}
 |.inr M'=>M'.fault):=by
 obtain⟨_,bF,_,_,rfl⟩:=he;exact step_in h0 b off len cap q F hq hql hl hat 6 d a b' h imm f0 f1 f2 f3 f4 f5 (by omega) _ hv 132 _ rfl (by intro _ _;go_simp) (fun w' hc=>op_reg_bothBits hc hk _ d a b' h imm hd ha hb (hc.tab.one (by omega) (by omega) hv rfl).cell (hc.tab.one (by omega) (by omega) hv rfl).lt)
theorem step_7(h0:Core w base bC p nx tab M)(hk:M.Ok)(b off len cap q:Nat)(F:Nat->Nat->Int)(hq:M.pc=q)(hql:q<len)(hl:len<=2000)(hat:At w b off (len*6) (insF F))(d a b' h:Nat)(imm:Int)
 (f0:F q 0=((7:Nat):Int))(f1:F q 1=d)(f2:F q 2=a)(f3:F q 3=b')(f4:F q 4=imm)(f5:F q 5=h)(_hn:M.nO<=1048576)(hd:d<8)(ha:a<8)(hb:b'<8)(_hsh:((7:Nat)=12∨(7:Nat)=13)->0<=imm/\imm<=63)(v:Value)(hv:tab[7]?=some v)(he:EntOK w base v (ent 7)):
 Calls Tryz.prog 31 #[.pointer (some ⟨bC,0,none⟩),.slice (some ⟨b,off,none⟩) len cap] w fun e w'=>e=.returned (.tuple #[])/\Below base w w'/\∃p' nx',Core w' base bC p' nx' tab (match exec 7 d a b' h imm M (M.pc+1)with
 |.inl (M',nx)=>{M' with pc:=nx}
 |.inr M'=>M'.fault):=by
 obtain⟨_,bF,_,_,rfl⟩:=he;exact step_in h0 b off len cap q F hq hql hl hat 7 d a b' h imm f0 f1 f2 f3 f4 f5 (by omega) _ hv 132 _ rfl (by intro _ _;go_simp) (fun w' hc=>op_reg_eitherBits hc hk _ d a b' h imm hd ha hb (hc.tab.one (by omega) (by omega) hv rfl).cell (hc.tab.one (by omega) (by omega) hv rfl).lt)
theorem step_8(h0:Core w base bC p nx tab M)(hk:M.Ok)(b off len cap q:Nat)(F:Nat->Nat->Int)(hq:M.pc=q)(hql:q<len)(hl:len<=2000)(hat:At w b off (len*6) (insF F))(d a b' h:Nat)(imm:Int)
 (f0:F q 0=((8:Nat):Int))(f1:F q 1=d)(f2:F q 2=a)(f3:F q 3=b')(f4:F q 4=imm)(f5:F q 5=h)(_hn:M.nO<=1048576)(hd:d<8)(ha:a<8)(hb:b'<8)(_hsh:((8:Nat)=12∨(8:Nat)=13)->0<=imm/\imm<=63)(v:Value)(hv:tab[8]?=some v)(he:EntOK w base v (ent 8)):
 Calls Tryz.prog 31 #[.pointer (some ⟨bC,0,none⟩),.slice (some ⟨b,off,none⟩) len cap] w fun e w'=>e=.returned (.tuple #[])/\Below base w w'/\∃p' nx',Core w' base bC p' nx' tab (match exec 8 d a b' h imm M (M.pc+1)with
 |.inl (M',nx)=>{M' with pc:=nx}
 |.inr M'=>M'.fault):=by
 obtain⟨_,bF,_,_,rfl⟩:=he;exact step_in h0 b off len cap q F hq hql hl hat 8 d a b' h imm f0 f1 f2 f3 f4 f5 (by omega) _ hv 132 _ rfl (by intro _ _;go_simp) (fun w' hc=>op_reg_oneBits hc hk _ d a b' h imm hd ha hb (hc.tab.one (by omega) (by omega) hv rfl).cell (hc.tab.one (by omega) (by omega) hv rfl).lt)
theorem step_9(h0:Core w base bC p nx tab M)(hk:M.Ok)(b off len cap q:Nat)(F:Nat->Nat->Int)(hq:M.pc=q)(hql:q<len)(hl:len<=2000)(hat:At w b off (len*6) (insF F))(d a b' h:Nat)(imm:Int)
 (f0:F q 0=((9:Nat):Int))(f1:F q 1=d)(f2:F q 2=a)(f3:F q 3=b')(f4:F q 4=imm)(f5:F q 5=h)(hn:M.nO<=1048576)(hd:d<8)(ha:a<8)(hb:b'<8)(_hsh:((9:Nat)=12∨(9:Nat)=13)->0<=imm/\imm<=63)(v:Value)(hv:tab[9]?=some v)(he:EntOK w base v (ent 9)):
 Calls Tryz.prog 31 #[.pointer (some ⟨bC,0,none⟩),.slice (some ⟨b,off,none⟩) len cap] w fun e w'=>e=.returned (.tuple #[])/\Below base w w'/\∃p' nx',Core w' base bC p' nx' tab (match exec 9 d a b' h imm M (M.pc+1)with
 |.inl (M',nx)=>{M' with pc:=nx}
 |.inr M'=>M'.fault):=by
 exact step_in h0 b off len cap q F hq hql hl hat 9 d a b' h imm f0 f1 f2 f3 f4 f5 (by omega) v hv 105 #[] he (by intro _ _;go_simp) (fun w' hc=>op_div hc hk _ d a b' h imm hn hd ha hb)
theorem step_10(h0:Core w base bC p nx tab M)(hk:M.Ok)(b off len cap q:Nat)(F:Nat->Nat->Int)(hq:M.pc=q)(hql:q<len)(hl:len<=2000)(hat:At w b off (len*6) (insF F))(d a b' h:Nat)(imm:Int)
 (f0:F q 0=((10:Nat):Int))(f1:F q 1=d)(f2:F q 2=a)(f3:F q 3=b')(f4:F q 4=imm)(f5:F q 5=h)(_hn:M.nO<=1048576)(hd:d<8)(ha:a<8)(_hb:b'<8)(_hsh:((10:Nat)=12∨(10:Nat)=13)->0<=imm/\imm<=63)(v:Value)(hv:tab[10]?=some v)(he:EntOK w base v (ent 10)):
 Calls Tryz.prog 31 #[.pointer (some ⟨bC,0,none⟩),.slice (some ⟨b,off,none⟩) len cap] w fun e w'=>e=.returned (.tuple #[])/\Below base w w'/\∃p' nx',Core w' base bC p' nx' tab (match exec 10 d a b' h imm M (M.pc+1)with
 |.inl (M',nx)=>{M' with pc:=nx}
 |.inr M'=>M'.fault):=by
 obtain⟨_,bF,_,_,rfl⟩:=he;exact step_in h0 b off len cap q F hq hql hl hat 10 d a b' h imm f0 f1 f2 f3 f4 f5 (by omega) _ hv 135 _ rfl (by intro _ _;go_simp) (fun w' hc=>op_num_sum hc hk _ d a b' h imm hd ha (hc.tab.one (by omega) (by omega) hv rfl).cell (hc.tab.one (by omega) (by omega) hv rfl).lt)
theorem step_11(h0:Core w base bC p nx tab M)(hk:M.Ok)(b off len cap q:Nat)(F:Nat->Nat->Int)(hq:M.pc=q)(hql:q<len)(hl:len<=2000)(hat:At w b off (len*6) (insF F))(d a b' h:Nat)(imm:Int)
 (f0:F q 0=((11:Nat):Int))(f1:F q 1=d)(f2:F q 2=a)(f3:F q 3=b')(f4:F q 4=imm)(f5:F q 5=h)(_hn:M.nO<=1048576)(hd:d<8)(ha:a<8)(_hb:b'<8)(_hsh:((11:Nat)=12∨(11:Nat)=13)->0<=imm/\imm<=63)(v:Value)(hv:tab[11]?=some v)(he:EntOK w base v (ent 11)):
 Calls Tryz.prog 31 #[.pointer (some ⟨bC,0,none⟩),.slice (some ⟨b,off,none⟩) len cap] w fun e w'=>e=.returned (.tuple #[])/\Below base w w'/\∃p' nx',Core w' base bC p' nx' tab (match exec 11 d a b' h imm M (M.pc+1)with
 |.inl (M',nx)=>{M' with pc:=nx}
 |.inr M'=>M'.fault):=by
 obtain⟨_,bF,_,_,rfl⟩:=he;exact step_in h0 b off len cap q F hq hql hl hat 11 d a b' h imm f0 f1 f2 f3 f4 f5 (by omega) _ hv 135 _ rfl (by intro _ _;go_simp) (fun w' hc=>op_num_bothBits hc hk _ d a b' h imm hd ha (hc.tab.one (by omega) (by omega) hv rfl).cell (hc.tab.one (by omega) (by omega) hv rfl).lt)
theorem step_12(h0:Core w base bC p nx tab M)(hk:M.Ok)(b off len cap q:Nat)(F:Nat->Nat->Int)(hq:M.pc=q)(hql:q<len)(hl:len<=2000)(hat:At w b off (len*6) (insF F))(d a b' h:Nat)(imm:Int)
 (f0:F q 0=((12:Nat):Int))(f1:F q 1=d)(f2:F q 2=a)(f3:F q 3=b')(f4:F q 4=imm)(f5:F q 5=h)(_hn:M.nO<=1048576)(hd:d<8)(ha:a<8)(_hb:b'<8)(hsh:((12:Nat)=12∨(12:Nat)=13)->0<=imm/\imm<=63)(v:Value)(hv:tab[12]?=some v)(he:EntOK w base v (ent 12)):
 Calls Tryz.prog 31 #[.pointer (some ⟨bC,0,none⟩),.slice (some ⟨b,off,none⟩) len cap] w fun e w'=>e=.returned (.tuple #[])/\Below base w w'/\∃p' nx',Core w' base bC p' nx' tab (match exec 12 d a b' h imm M (M.pc+1)with
 |.inl (M',nx)=>{M' with pc:=nx}
 |.inr M'=>M'.fault):=by
 obtain⟨_,bF,_,_,rfl⟩:=he;exact step_in h0 b off len cap q F hq hql hl hat 12 d a b' h imm f0 f1 f2 f3 f4 f5 (by omega) _ hv 135 _ rfl (by intro _ _;go_simp) (fun w' hc=>op_num_shiftLeft hc hk _ d a b' h imm hd ha (hsh (.inl rfl)).1 (hsh (.inl rfl)).2 (hc.tab.one (by omega) (by omega) hv rfl).cell (hc.tab.one (by omega) (by omega) hv rfl).lt)
theorem step_13(h0:Core w base bC p nx tab M)(hk:M.Ok)(b off len cap q:Nat)(F:Nat->Nat->Int)(hq:M.pc=q)(hql:q<len)(hl:len<=2000)(hat:At w b off (len*6) (insF F))(d a b' h:Nat)(imm:Int)
 (f0:F q 0=((13:Nat):Int))(f1:F q 1=d)(f2:F q 2=a)(f3:F q 3=b')(f4:F q 4=imm)(f5:F q 5=h)(_hn:M.nO<=1048576)(hd:d<8)(ha:a<8)(_hb:b'<8)(hsh:((13:Nat)=12∨(13:Nat)=13)->0<=imm/\imm<=63)(v:Value)(hv:tab[13]?=some v)(he:EntOK w base v (ent 13)):
 Calls Tryz.prog 31 #[.pointer (some ⟨bC,0,none⟩),.slice (some ⟨b,off,none⟩) len cap] w fun e w'=>e=.returned (.tuple #[])/\Below base w w'/\∃p' nx',Core w' base bC p' nx' tab (match exec 13 d a b' h imm M (M.pc+1)with
 |.inl (M',nx)=>{M' with pc:=nx}
 |.inr M'=>M'.fault):=by
 obtain⟨_,bF,_,_,rfl⟩:=he;exact step_in h0 b off len cap q F hq hql hl hat 13 d a b' h imm f0 f1 f2 f3 f4 f5 (by omega) _ hv 135 _ rfl (by intro _ _;go_simp) (fun w' hc=>op_num_shiftRight hc hk _ d a b' h imm hd ha (hsh (.inr rfl)).1 (hsh (.inr rfl)).2 (hc.tab.one (by omega) (by omega) hv rfl).cell (hc.tab.one (by omega) (by omega) hv rfl).lt)
theorem step_14(h0:Core w base bC p nx tab M)(hk:M.Ok)(b off len cap q:Nat)(F:Nat->Nat->Int)(hq:M.pc=q)(hql:q<len)(hl:len<=2000)(hat:At w b off (len*6) (insF F))(d a b' h:Nat)(imm:Int)
 (f0:F q 0=((14:Nat):Int))(f1:F q 1=d)(f2:F q 2=a)(f3:F q 3=b')(f4:F q 4=imm)(f5:F q 5=h)(_hn:M.nO<=1048576)(hd:d<8)(ha:a<8)(hb:b'<8)(_hsh:((14:Nat)=12∨(14:Nat)=13)->0<=imm/\imm<=63)(v:Value)(hv:tab[14]?=some v)(he:EntOK w base v (ent 14)):
 Calls Tryz.prog 31 #[.pointer (some ⟨bC,0,none⟩),.slice (some ⟨b,off,none⟩) len cap] w fun e w'=>e=.returned (.tuple #[])/\Below base w w'/\∃p' nx',Core w' base bC p' nx' tab (match exec 14 d a b' h imm M (M.pc+1)with
 |.inl (M',nx)=>{M' with pc:=nx}
 |.inr M'=>M'.fault):=by
 exact step_in h0 b off len cap q F hq hql hl hat 14 d a b' h imm f0 f1 f2 f3 f4 f5 (by omega) v hv 109 #[] he (by intro _ _;go_simp) (fun w' hc=>op_adds hc hk _ d a b' h imm hd ha hb)
theorem step_15(h0:Core w base bC p nx tab M)(hk:M.Ok)(b off len cap q:Nat)(F:Nat->Nat->Int)(hq:M.pc=q)(hql:q<len)(hl:len<=2000)(hat:At w b off (len*6) (insF F))(d a b' h:Nat)(imm:Int)
 (f0:F q 0=((15:Nat):Int))(f1:F q 1=d)(f2:F q 2=a)(f3:F q 3=b')(f4:F q 4=imm)(f5:F q 5=h)(_hn:M.nO<=1048576)(hd:d<8)(ha:a<8)(hb:b'<8)(_hsh:((15:Nat)=12∨(15:Nat)=13)->0<=imm/\imm<=63)(v:Value)(hv:tab[15]?=some v)(he:EntOK w base v (ent 15)):
 Calls Tryz.prog 31 #[.pointer (some ⟨bC,0,none⟩),.slice (some ⟨b,off,none⟩) len cap] w fun e w'=>e=.returned (.tuple #[])/\Below base w w'/\∃p' nx',Core w' base bC p' nx' tab (match exec 15 d a b' h imm M (M.pc+1)with
 |.inl (M',nx)=>{M' with pc:=nx}
 |.inr M'=>M'.fault):=by
 exact step_in h0 b off len cap q F hq hql hl hat 15 d a b' h imm f0 f1 f2 f3 f4 f5 (by omega) v hv 110 #[] he (by intro _ _;go_simp) (fun w' hc=>op_adc hc hk _ d a b' h imm hd ha hb)
theorem step_16(h0:Core w base bC p nx tab M)(hk:M.Ok)(b off len cap q:Nat)(F:Nat->Nat->Int)(hq:M.pc=q)(hql:q<len)(hl:len<=2000)(hat:At w b off (len*6) (insF F))(d a b' h:Nat)(imm:Int)
 (f0:F q 0=((16:Nat):Int))(f1:F q 1=d)(f2:F q 2=a)(f3:F q 3=b')(f4:F q 4=imm)(f5:F q 5=h)(_hn:M.nO<=1048576)(hd:d<8)(ha:a<8)(hb:b'<8)(_hsh:((16:Nat)=12∨(16:Nat)=13)->0<=imm/\imm<=63)(v:Value)(hv:tab[16]?=some v)(he:EntOK w base v (ent 16)):
 Calls Tryz.prog 31 #[.pointer (some ⟨bC,0,none⟩),.slice (some ⟨b,off,none⟩) len cap] w fun e w'=>e=.returned (.tuple #[])/\Below base w w'/\∃p' nx',Core w' base bC p' nx' tab (match exec 16 d a b' h imm M (M.pc+1)with
 |.inl (M',nx)=>{M' with pc:=nx}
 |.inr M'=>M'.fault):=by
 exact step_in h0 b off len cap q F hq hql hl hat 16 d a b' h imm f0 f1 f2 f3 f4 f5 (by omega) v hv 111 #[] he (by intro _ _;go_simp) (fun w' hc=>op_subs hc hk _ d a b' h imm hd ha hb)
theorem step_17(h0:Core w base bC p nx tab M)(hk:M.Ok)(b off len cap q:Nat)(F:Nat->Nat->Int)(hq:M.pc=q)(hql:q<len)(hl:len<=2000)(hat:At w b off (len*6) (insF F))(d a b' h:Nat)(imm:Int)
 (f0:F q 0=((17:Nat):Int))(f1:F q 1=d)(f2:F q 2=a)(f3:F q 3=b')(f4:F q 4=imm)(f5:F q 5=h)(_hn:M.nO<=1048576)(_hd:d<8)(ha:a<8)(hb:b'<8)(_hsh:((17:Nat)=12∨(17:Nat)=13)->0<=imm/\imm<=63)(v:Value)(hv:tab[17]?=some v)(he:EntOK w base v (ent 17)):
 Calls Tryz.prog 31 #[.pointer (some ⟨bC,0,none⟩),.slice (some ⟨b,off,none⟩) len cap] w fun e w'=>e=.returned (.tuple #[])/\Below base w w'/\∃p' nx',Core w' base bC p' nx' tab (match exec 17 d a b' h imm M (M.pc+1)with
 |.inl (M',nx)=>{M' with pc:=nx}
 |.inr M'=>M'.fault):=by
 exact step_in h0 b off len cap q F hq hql hl hat 17 d a b' h imm f0 f1 f2 f3 f4 f5 (by omega) v hv 112 #[] he (by intro _ _;go_simp) (fun w' hc=>op_cmp hc hk _ d a b' h imm ha hb)
theorem step_18(h0:Core w base bC p nx tab M)(hk:M.Ok)(b off len cap q:Nat)(F:Nat->Nat->Int)(hq:M.pc=q)(hql:q<len)(hl:len<=2000)(hat:At w b off (len*6) (insF F))(d a b' h:Nat)(imm:Int)
 (f0:F q 0=((18:Nat):Int))(f1:F q 1=d)(f2:F q 2=a)(f3:F q 3=b')(f4:F q 4=imm)(f5:F q 5=h)(_hn:M.nO<=1048576)(_hd:d<8)(ha:a<8)(_hb:b'<8)(_hsh:((18:Nat)=12∨(18:Nat)=13)->0<=imm/\imm<=63)(v:Value)(hv:tab[18]?=some v)(he:EntOK w base v (ent 18)):
 Calls Tryz.prog 31 #[.pointer (some ⟨bC,0,none⟩),.slice (some ⟨b,off,none⟩) len cap] w fun e w'=>e=.returned (.tuple #[])/\Below base w w'/\∃p' nx',Core w' base bC p' nx' tab (match exec 18 d a b' h imm M (M.pc+1)with
 |.inl (M',nx)=>{M' with pc:=nx}
 |.inr M'=>M'.fault):=by
 exact step_in h0 b off len cap q F hq hql hl hat 18 d a b' h imm f0 f1 f2 f3 f4 f5 (by omega) v hv 113 #[] he (by intro _ _;go_simp) (fun w' hc=>op_cmpi hc hk _ d a b' h imm ha)
theorem step_19(h0:Core w base bC p nx tab M)(hk:M.Ok)(b off len cap q:Nat)(F:Nat->Nat->Int)(hq:M.pc=q)(hql:q<len)(hl:len<=2000)(hat:At w b off (len*6) (insF F))(d a b' h:Nat)(imm:Int)
 (f0:F q 0=((19:Nat):Int))(f1:F q 1=d)(f2:F q 2=a)(f3:F q 3=b')(f4:F q 4=imm)(f5:F q 5=h)(_hn:M.nO<=1048576)(hd:d<8)(ha:a<8)(hb:b'<8)(_hsh:((19:Nat)=12∨(19:Nat)=13)->0<=imm/\imm<=63)(v:Value)(hv:tab[19]?=some v)(he:EntOK w base v (ent 19)):
 Calls Tryz.prog 31 #[.pointer (some ⟨bC,0,none⟩),.slice (some ⟨b,off,none⟩) len cap] w fun e w'=>e=.returned (.tuple #[])/\Below base w w'/\∃p' nx',Core w' base bC p' nx' tab (match exec 19 d a b' h imm M (M.pc+1)with
 |.inl (M',nx)=>{M' with pc:=nx}
 |.inr M'=>M'.fault):=by
 obtain⟨_,bF,_,_,rfl⟩:=he;exact step_in h0 b off len cap q F hq hql hl hat 19 d a b' h imm f0 f1 f2 f3 f4 f5 (by omega) _ hv 138 _ rfl (by intro _ _;go_simp) (fun w' hc=>op_selz hc hk _ d a b' h imm hd ha hb (hc.tab.one (by omega) (by omega) hv rfl).cell (hc.tab.one (by omega) (by omega) hv rfl).lt)
theorem step_20(h0:Core w base bC p nx tab M)(hk:M.Ok)(b off len cap q:Nat)(F:Nat->Nat->Int)(hq:M.pc=q)(hql:q<len)(hl:len<=2000)(hat:At w b off (len*6) (insF F))(d a b' h:Nat)(imm:Int)
 (f0:F q 0=((20:Nat):Int))(f1:F q 1=d)(f2:F q 2=a)(f3:F q 3=b')(f4:F q 4=imm)(f5:F q 5=h)(_hn:M.nO<=1048576)(hd:d<8)(ha:a<8)(hb:b'<8)(_hsh:((20:Nat)=12∨(20:Nat)=13)->0<=imm/\imm<=63)(v:Value)(hv:tab[20]?=some v)(he:EntOK w base v (ent 20)):
 Calls Tryz.prog 31 #[.pointer (some ⟨bC,0,none⟩),.slice (some ⟨b,off,none⟩) len cap] w fun e w'=>e=.returned (.tuple #[])/\Below base w w'/\∃p' nx',Core w' base bC p' nx' tab (match exec 20 d a b' h imm M (M.pc+1)with
 |.inl (M',nx)=>{M' with pc:=nx}
 |.inr M'=>M'.fault):=by
 obtain⟨_,bF,_,_,rfl⟩:=he;exact step_in h0 b off len cap q F hq hql hl hat 20 d a b' h imm f0 f1 f2 f3 f4 f5 (by omega) _ hv 138 _ rfl (by intro _ _;go_simp) (fun w' hc=>op_selc hc hk _ d a b' h imm hd ha hb (hc.tab.one (by omega) (by omega) hv rfl).cell (hc.tab.one (by omega) (by omega) hv rfl).lt)
theorem step_21(h0:Core w base bC p nx tab M)(hk:M.Ok)(b off len cap q:Nat)(F:Nat->Nat->Int)(hq:M.pc=q)(hql:q<len)(hl:len<=2000)(hat:At w b off (len*6) (insF F))(d a b' h:Nat)(imm:Int)
 (f0:F q 0=((21:Nat):Int))(f1:F q 1=d)(f2:F q 2=a)(f3:F q 3=b')(f4:F q 4=imm)(f5:F q 5=h)(hn:M.nO<=1048576)(hd:d<8)(ha:a<8)(_hb:b'<8)(_hsh:((21:Nat)=12∨(21:Nat)=13)->0<=imm/\imm<=63)(v:Value)(hv:tab[21]?=some v)(he:EntOK w base v (ent 21)):
 Calls Tryz.prog 31 #[.pointer (some ⟨bC,0,none⟩),.slice (some ⟨b,off,none⟩) len cap] w fun e w'=>e=.returned (.tuple #[])/\Below base w w'/\∃p' nx',Core w' base bC p' nx' tab (match exec 21 d a b' h imm M (M.pc+1)with
 |.inl (M',nx)=>{M' with pc:=nx}
 |.inr M'=>M'.fault):=by
 obtain⟨_,_,bF,bW,_,_,_,_,rfl⟩:=he;exact step_in h0 b off len cap q F hq hql hl hat 21 d a b' h imm f0 f1 f2 f3 f4 f5 (by omega) _ hv 140 _ rfl (by intro _ _;go_simp) (fun w' hc=>op_loadN hc hk _ d a b' h imm 1 (by omega) (by omega) hn hd ha (hc.tab.two (by omega) (by omega) hv rfl).1 (hc.tab.two (by omega) (by omega) hv rfl).2)
theorem step_22(h0:Core w base bC p nx tab M)(hk:M.Ok)(b off len cap q:Nat)(F:Nat->Nat->Int)(hq:M.pc=q)(hql:q<len)(hl:len<=2000)(hat:At w b off (len*6) (insF F))(d a b' h:Nat)(imm:Int)
 (f0:F q 0=((22:Nat):Int))(f1:F q 1=d)(f2:F q 2=a)(f3:F q 3=b')(f4:F q 4=imm)(f5:F q 5=h)(hn:M.nO<=1048576)(hd:d<8)(ha:a<8)(_hb:b'<8)(_hsh:((22:Nat)=12∨(22:Nat)=13)->0<=imm/\imm<=63)(v:Value)(hv:tab[22]?=some v)(he:EntOK w base v (ent 22)):
 Calls Tryz.prog 31 #[.pointer (some ⟨bC,0,none⟩),.slice (some ⟨b,off,none⟩) len cap] w fun e w'=>e=.returned (.tuple #[])/\Below base w w'/\∃p' nx',Core w' base bC p' nx' tab (match exec 22 d a b' h imm M (M.pc+1)with
 |.inl (M',nx)=>{M' with pc:=nx}
 |.inr M'=>M'.fault):=by
 obtain⟨_,_,bF,bW,_,_,_,_,rfl⟩:=he;exact step_in h0 b off len cap q F hq hql hl hat 22 d a b' h imm f0 f1 f2 f3 f4 f5 (by omega) _ hv 140 _ rfl (by intro _ _;go_simp) (fun w' hc=>op_loadN hc hk _ d a b' h imm 8 (by omega) (by omega) hn hd ha (hc.tab.two (by omega) (by omega) hv rfl).1 (hc.tab.two (by omega) (by omega) hv rfl).2)
theorem step_23(h0:Core w base bC p nx tab M)(hk:M.Ok)(b off len cap q:Nat)(F:Nat->Nat->Int)(hq:M.pc=q)(hql:q<len)(hl:len<=2000)(hat:At w b off (len*6) (insF F))(d a b' h:Nat)(imm:Int)
 (f0:F q 0=((23:Nat):Int))(f1:F q 1=d)(f2:F q 2=a)(f3:F q 3=b')(f4:F q 4=imm)(f5:F q 5=h)(hn:M.nO<=1048576)(hd:d<8)(ha:a<8)(_hb:b'<8)(_hsh:((23:Nat)=12∨(23:Nat)=13)->0<=imm/\imm<=63)(v:Value)(hv:tab[23]?=some v)(he:EntOK w base v (ent 23)):
 Calls Tryz.prog 31 #[.pointer (some ⟨bC,0,none⟩),.slice (some ⟨b,off,none⟩) len cap] w fun e w'=>e=.returned (.tuple #[])/\Below base w w'/\∃p' nx',Core w' base bC p' nx' tab (match exec 23 d a b' h imm M (M.pc+1)with
 |.inl (M',nx)=>{M' with pc:=nx}
 |.inr M'=>M'.fault):=by
 obtain⟨_,_,bF,bW,_,_,_,_,rfl⟩:=he;exact step_in h0 b off len cap q F hq hql hl hat 23 d a b' h imm f0 f1 f2 f3 f4 f5 (by omega) _ hv 142 _ rfl (by intro _ _;go_simp) (fun w' hc=>op_storeN hc hk _ d a b' h imm 1 (by omega) (by omega) hn hd ha (hc.tab.two (by omega) (by omega) hv rfl).1 (hc.tab.two (by omega) (by omega) hv rfl).2)
theorem step_24(h0:Core w base bC p nx tab M)(hk:M.Ok)(b off len cap q:Nat)(F:Nat->Nat->Int)(hq:M.pc=q)(hql:q<len)(hl:len<=2000)(hat:At w b off (len*6) (insF F))(d a b' h:Nat)(imm:Int)
 (f0:F q 0=((24:Nat):Int))(f1:F q 1=d)(f2:F q 2=a)(f3:F q 3=b')(f4:F q 4=imm)(f5:F q 5=h)(hn:M.nO<=1048576)(hd:d<8)(ha:a<8)(_hb:b'<8)(_hsh:((24:Nat)=12∨(24:Nat)=13)->0<=imm/\imm<=63)(v:Value)(hv:tab[24]?=some v)(he:EntOK w base v (ent 24)):
 Calls Tryz.prog 31 #[.pointer (some ⟨bC,0,none⟩),.slice (some ⟨b,off,none⟩) len cap] w fun e w'=>e=.returned (.tuple #[])/\Below base w w'/\∃p' nx',Core w' base bC p' nx' tab (match exec 24 d a b' h imm M (M.pc+1)with
 |.inl (M',nx)=>{M' with pc:=nx}
 |.inr M'=>M'.fault):=by
 obtain⟨_,_,bF,bW,_,_,_,_,rfl⟩:=he;exact step_in h0 b off len cap q F hq hql hl hat 24 d a b' h imm f0 f1 f2 f3 f4 f5 (by omega) _ hv 142 _ rfl (by intro _ _;go_simp) (fun w' hc=>op_storeN hc hk _ d a b' h imm 8 (by omega) (by omega) hn hd ha (hc.tab.two (by omega) (by omega) hv rfl).1 (hc.tab.two (by omega) (by omega) hv rfl).2)
theorem step_25(h0:Core w base bC p nx tab M)(hk:M.Ok)(b off len cap q:Nat)(F:Nat->Nat->Int)(hq:M.pc=q)(hql:q<len)(hl:len<=2000)(hat:At w b off (len*6) (insF F))(d a b' h:Nat)(imm:Int)
 (f0:F q 0=((25:Nat):Int))(f1:F q 1=d)(f2:F q 2=a)(f3:F q 3=b')(f4:F q 4=imm)(f5:F q 5=h)(hn:M.nO<=1048576)(hd:d<8)(ha:a<8)(hb:b'<8)(_hsh:((25:Nat)=12∨(25:Nat)=13)->0<=imm/\imm<=63)(v:Value)(hv:tab[25]?=some v)(he:EntOK w base v (ent 25)):
 Calls Tryz.prog 31 #[.pointer (some ⟨bC,0,none⟩),.slice (some ⟨b,off,none⟩) len cap] w fun e w'=>e=.returned (.tuple #[])/\Below base w w'/\∃p' nx',Core w' base bC p' nx' tab (match exec 25 d a b' h imm M (M.pc+1)with
 |.inl (M',nx)=>{M' with pc:=nx}
 |.inr M'=>M'.fault):=by
 obtain⟨_,_,bF,bW,_,_,_,_,rfl⟩:=he;exact step_in h0 b off len cap q F hq hql hl hat 25 d a b' h imm f0 f1 f2 f3 f4 f5 (by omega) _ hv 140 _ rfl (by intro _ _;go_simp) (fun w' hc=>op_loadX hc hk _ d a b' h imm 1 (by omega) (by omega) hn hd ha hb (hc.tab.two (by omega) (by omega) hv rfl).1 (hc.tab.two (by omega) (by omega) hv rfl).2)
theorem step_26(h0:Core w base bC p nx tab M)(hk:M.Ok)(b off len cap q:Nat)(F:Nat->Nat->Int)(hq:M.pc=q)(hql:q<len)(hl:len<=2000)(hat:At w b off (len*6) (insF F))(d a b' h:Nat)(imm:Int)
 (f0:F q 0=((26:Nat):Int))(f1:F q 1=d)(f2:F q 2=a)(f3:F q 3=b')(f4:F q 4=imm)(f5:F q 5=h)(hn:M.nO<=1048576)(hd:d<8)(ha:a<8)(hb:b'<8)(_hsh:((26:Nat)=12∨(26:Nat)=13)->0<=imm/\imm<=63)(v:Value)(hv:tab[26]?=some v)(he:EntOK w base v (ent 26)):
 Calls Tryz.prog 31 #[.pointer (some ⟨bC,0,none⟩),.slice (some ⟨b,off,none⟩) len cap] w fun e w'=>e=.returned (.tuple #[])/\Below base w w'/\∃p' nx',Core w' base bC p' nx' tab (match exec 26 d a b' h imm M (M.pc+1)with
 |.inl (M',nx)=>{M' with pc:=nx}
 |.inr M'=>M'.fault):=by
 obtain⟨_,_,bF,bW,_,_,_,_,rfl⟩:=he;exact step_in h0 b off len cap q F hq hql hl hat 26 d a b' h imm f0 f1 f2 f3 f4 f5 (by omega) _ hv 140 _ rfl (by intro _ _;go_simp) (fun w' hc=>op_loadX hc hk _ d a b' h imm 8 (by omega) (by omega) hn hd ha hb (hc.tab.two (by omega) (by omega) hv rfl).1 (hc.tab.two (by omega) (by omega) hv rfl).2)
theorem step_27(h0:Core w base bC p nx tab M)(hk:M.Ok)(b off len cap q:Nat)(F:Nat->Nat->Int)(hq:M.pc=q)(hql:q<len)(hl:len<=2000)(hat:At w b off (len*6) (insF F))(d a b' h:Nat)(imm:Int)
 (f0:F q 0=((27:Nat):Int))(f1:F q 1=d)(f2:F q 2=a)(f3:F q 3=b')(f4:F q 4=imm)(f5:F q 5=h)(hn:M.nO<=1048576)(hd:d<8)(ha:a<8)(hb:b'<8)(_hsh:((27:Nat)=12∨(27:Nat)=13)->0<=imm/\imm<=63)(v:Value)(hv:tab[27]?=some v)(he:EntOK w base v (ent 27)):
 Calls Tryz.prog 31 #[.pointer (some ⟨bC,0,none⟩),.slice (some ⟨b,off,none⟩) len cap] w fun e w'=>e=.returned (.tuple #[])/\Below base w w'/\∃p' nx',Core w' base bC p' nx' tab (match exec 27 d a b' h imm M (M.pc+1)with
 |.inl (M',nx)=>{M' with pc:=nx}
 |.inr M'=>M'.fault):=by
 obtain⟨_,_,bF,bW,_,_,_,_,rfl⟩:=he;exact step_in h0 b off len cap q F hq hql hl hat 27 d a b' h imm f0 f1 f2 f3 f4 f5 (by omega) _ hv 142 _ rfl (by intro _ _;go_simp) (fun w' hc=>op_storeX hc hk _ d a b' h imm 1 (by omega) (by omega) hn hd ha hb (hc.tab.two (by omega) (by omega) hv rfl).1 (hc.tab.two (by omega) (by omega) hv rfl).2)
theorem step_28(h0:Core w base bC p nx tab M)(hk:M.Ok)(b off len cap q:Nat)(F:Nat->Nat->Int)(hq:M.pc=q)(hql:q<len)(hl:len<=2000)(hat:At w b off (len*6) (insF F))(d a b' h:Nat)(imm:Int)
 (f0:F q 0=((28:Nat):Int))(f1:F q 1=d)(f2:F q 2=a)(f3:F q 3=b')(f4:F q 4=imm)(f5:F q 5=h)(hn:M.nO<=1048576)(hd:d<8)(ha:a<8)(hb:b'<8)(_hsh:((28:Nat)=12∨(28:Nat)=13)->0<=imm/\imm<=63)(v:Value)(hv:tab[28]?=some v)(he:EntOK w base v (ent 28)):
 Calls Tryz.prog 31 #[.pointer (some ⟨bC,0,none⟩),.slice (some ⟨b,off,none⟩) len cap] w fun e w'=>e=.returned (.tuple #[])/\Below base w w'/\∃p' nx',Core w' base bC p' nx' tab (match exec 28 d a b' h imm M (M.pc+1)with
 |.inl (M',nx)=>{M' with pc:=nx}
 |.inr M'=>M'.fault):=by
 obtain⟨_,_,bF,bW,_,_,_,_,rfl⟩:=he;exact step_in h0 b off len cap q F hq hql hl hat 28 d a b' h imm f0 f1 f2 f3 f4 f5 (by omega) _ hv 142 _ rfl (by intro _ _;go_simp) (fun w' hc=>op_storeX hc hk _ d a b' h imm 8 (by omega) (by omega) hn hd ha hb (hc.tab.two (by omega) (by omega) hv rfl).1 (hc.tab.two (by omega) (by omega) hv rfl).2)
theorem step_29(h0:Core w base bC p nx tab M)(hk:M.Ok)(b off len cap q:Nat)(F:Nat->Nat->Int)(hq:M.pc=q)(hql:q<len)(hl:len<=2000)(hat:At w b off (len*6) (insF F))(d a b' h:Nat)(imm:Int)
 (f0:F q 0=((29:Nat):Int))(f1:F q 1=d)(f2:F q 2=a)(f3:F q 3=b')(f4:F q 4=imm)(f5:F q 5=h)(_hn:M.nO<=1048576)(_hd:d<8)(_ha:a<8)(_hb:b'<8)(_hsh:((29:Nat)=12∨(29:Nat)=13)->0<=imm/\imm<=63)(v:Value)(hv:tab[29]?=some v)(he:EntOK w base v (ent 29)):
 Calls Tryz.prog 31 #[.pointer (some ⟨bC,0,none⟩),.slice (some ⟨b,off,none⟩) len cap] w fun e w'=>e=.returned (.tuple #[])/\Below base w w'/\∃p' nx',Core w' base bC p' nx' tab (match exec 29 d a b' h imm M (M.pc+1)with
 |.inl (M',nx)=>{M' with pc:=nx}
 |.inr M'=>M'.fault):=by
 exact step_in h0 b off len cap q F hq hql hl hat 29 d a b' h imm f0 f1 f2 f3 f4 f5 (by omega) v hv 121 #[] he (by intro _ _;go_simp) (fun w' hc=>op_jmp hc hk _ d a b' h imm)
theorem step_30(h0:Core w base bC p nx tab M)(hk:M.Ok)(b off len cap q:Nat)(F:Nat->Nat->Int)(hq:M.pc=q)(hql:q<len)(hl:len<=2000)(hat:At w b off (len*6) (insF F))(d a b' h:Nat)(imm:Int)
 (f0:F q 0=((30:Nat):Int))(f1:F q 1=d)(f2:F q 2=a)(f3:F q 3=b')(f4:F q 4=imm)(f5:F q 5=h)(hn:M.nO<=1048576)(_hd:d<8)(_ha:a<8)(_hb:b'<8)(_hsh:((30:Nat)=12∨(30:Nat)=13)->0<=imm/\imm<=63)(v:Value)(hv:tab[30]?=some v)(he:EntOK w base v (ent 30)):
 Calls Tryz.prog 31 #[.pointer (some ⟨bC,0,none⟩),.slice (some ⟨b,off,none⟩) len cap] w fun e w'=>e=.returned (.tuple #[])/\Below base w w'/\∃p' nx',Core w' base bC p' nx' tab (match exec 30 d a b' h imm M (M.pc+1)with
 |.inl (M',nx)=>{M' with pc:=nx}
 |.inr M'=>M'.fault):=by
 obtain⟨_,_,bF,bW,_,_,_,_,rfl⟩:=he;exact step_in h0 b off len cap q F hq hql hl hat 30 d a b' h imm f0 f1 f2 f3 f4 f5 (by omega) _ hv 143 _ rfl (by intro _ _;go_simp) (fun w' hc=>op_jumpz_true hc hk _ d a b' h imm hn (hc.tab.two (by omega) (by omega) hv rfl).1.cell (hc.tab.two (by omega) (by omega) hv rfl).1.lt (hc.tab.two (by omega) (by omega) hv rfl).2.cell (hc.tab.two (by omega) (by omega) hv rfl).2.lt)
theorem step_31(h0:Core w base bC p nx tab M)(hk:M.Ok)(b off len cap q:Nat)(F:Nat->Nat->Int)(hq:M.pc=q)(hql:q<len)(hl:len<=2000)(hat:At w b off (len*6) (insF F))(d a b' h:Nat)(imm:Int)
 (f0:F q 0=((31:Nat):Int))(f1:F q 1=d)(f2:F q 2=a)(f3:F q 3=b')(f4:F q 4=imm)(f5:F q 5=h)(hn:M.nO<=1048576)(_hd:d<8)(_ha:a<8)(_hb:b'<8)(_hsh:((31:Nat)=12∨(31:Nat)=13)->0<=imm/\imm<=63)(v:Value)(hv:tab[31]?=some v)(he:EntOK w base v (ent 31)):
 Calls Tryz.prog 31 #[.pointer (some ⟨bC,0,none⟩),.slice (some ⟨b,off,none⟩) len cap] w fun e w'=>e=.returned (.tuple #[])/\Below base w w'/\∃p' nx',Core w' base bC p' nx' tab (match exec 31 d a b' h imm M (M.pc+1)with
 |.inl (M',nx)=>{M' with pc:=nx}
 |.inr M'=>M'.fault):=by
 obtain⟨_,_,bF,bW,_,_,_,_,rfl⟩:=he;exact step_in h0 b off len cap q F hq hql hl hat 31 d a b' h imm f0 f1 f2 f3 f4 f5 (by omega) _ hv 143 _ rfl (by intro _ _;go_simp) (fun w' hc=>op_jumpz_false hc hk _ d a b' h imm hn (hc.tab.two (by omega) (by omega) hv rfl).1.cell (hc.tab.two (by omega) (by omega) hv rfl).1.lt (hc.tab.two (by omega) (by omega) hv rfl).2.cell (hc.tab.two (by omega) (by omega) hv rfl).2.lt)
theorem step_32(h0:Core w base bC p nx tab M)(hk:M.Ok)(b off len cap q:Nat)(F:Nat->Nat->Int)(hq:M.pc=q)(hql:q<len)(hl:len<=2000)(hat:At w b off (len*6) (insF F))(d a b' h:Nat)(imm:Int)
 (f0:F q 0=((32:Nat):Int))(f1:F q 1=d)(f2:F q 2=a)(f3:F q 3=b')(f4:F q 4=imm)(f5:F q 5=h)(hn:M.nO<=1048576)(_hd:d<8)(_ha:a<8)(_hb:b'<8)(_hsh:((32:Nat)=12∨(32:Nat)=13)->0<=imm/\imm<=63)(v:Value)(hv:tab[32]?=some v)(he:EntOK w base v (ent 32)):
 Calls Tryz.prog 31 #[.pointer (some ⟨bC,0,none⟩),.slice (some ⟨b,off,none⟩) len cap] w fun e w'=>e=.returned (.tuple #[])/\Below base w w'/\∃p' nx',Core w' base bC p' nx' tab (match exec 32 d a b' h imm M (M.pc+1)with
 |.inl (M',nx)=>{M' with pc:=nx}
 |.inr M'=>M'.fault):=by
 obtain⟨_,_,bF,bW,_,_,_,_,rfl⟩:=he;exact step_in h0 b off len cap q F hq hql hl hat 32 d a b' h imm f0 f1 f2 f3 f4 f5 (by omega) _ hv 143 _ rfl (by intro _ _;go_simp) (fun w' hc=>op_jumpc_true hc hk _ d a b' h imm hn (hc.tab.two (by omega) (by omega) hv rfl).1.cell (hc.tab.two (by omega) (by omega) hv rfl).1.lt (hc.tab.two (by omega) (by omega) hv rfl).2.cell (hc.tab.two (by omega) (by omega) hv rfl).2.lt)
theorem step_33(h0:Core w base bC p nx tab M)(hk:M.Ok)(b off len cap q:Nat)(F:Nat->Nat->Int)(hq:M.pc=q)(hql:q<len)(hl:len<=2000)(hat:At w b off (len*6) (insF F))(d a b' h:Nat)(imm:Int)
 (f0:F q 0=((33:Nat):Int))(f1:F q 1=d)(f2:F q 2=a)(f3:F q 3=b')(f4:F q 4=imm)(f5:F q 5=h)(hn:M.nO<=1048576)(_hd:d<8)(_ha:a<8)(_hb:b'<8)(_hsh:((33:Nat)=12∨(33:Nat)=13)->0<=imm/\imm<=63)(v:Value)(hv:tab[33]?=some v)(he:EntOK w base v (ent 33)):
 Calls Tryz.prog 31 #[.pointer (some ⟨bC,0,none⟩),.slice (some ⟨b,off,none⟩) len cap] w fun e w'=>e=.returned (.tuple #[])/\Below base w w'/\∃p' nx',Core w' base bC p' nx' tab (match exec 33 d a b' h imm M (M.pc+1)with
 |.inl (M',nx)=>{M' with pc:=nx}
 |.inr M'=>M'.fault):=by
 obtain⟨_,_,bF,bW,_,_,_,_,rfl⟩:=he;exact step_in h0 b off len cap q F hq hql hl hat 33 d a b' h imm f0 f1 f2 f3 f4 f5 (by omega) _ hv 143 _ rfl (by intro _ _;go_simp) (fun w' hc=>op_jumpc_false hc hk _ d a b' h imm hn (hc.tab.two (by omega) (by omega) hv rfl).1.cell (hc.tab.two (by omega) (by omega) hv rfl).1.lt (hc.tab.two (by omega) (by omega) hv rfl).2.cell (hc.tab.two (by omega) (by omega) hv rfl).2.lt)
theorem step_34(h0:Core w base bC p nx tab M)(hk:M.Ok)(b off len cap q:Nat)(F:Nat->Nat->Int)(hq:M.pc=q)(hql:q<len)(hl:len<=2000)(hat:At w b off (len*6) (insF F))(d a b' h:Nat)(imm:Int)
 (f0:F q 0=((34:Nat):Int))(f1:F q 1=d)(f2:F q 2=a)(f3:F q 3=b')(f4:F q 4=imm)(f5:F q 5=h)(_hn:M.nO<=1048576)(_hd:d<8)(_ha:a<8)(_hb:b'<8)(_hsh:((34:Nat)=12∨(34:Nat)=13)->0<=imm/\imm<=63)(v:Value)(hv:tab[34]?=some v)(he:EntOK w base v (ent 34)):
 Calls Tryz.prog 31 #[.pointer (some ⟨bC,0,none⟩),.slice (some ⟨b,off,none⟩) len cap] w fun e w'=>e=.returned (.tuple #[])/\Below base w w'/\∃p' nx',Core w' base bC p' nx' tab (match exec 34 d a b' h imm M (M.pc+1)with
 |.inl (M',nx)=>{M' with pc:=nx}
 |.inr M'=>M'.fault):=by
 exact step_in h0 b off len cap q F hq hql hl hat 34 d a b' h imm f0 f1 f2 f3 f4 f5 (by omega) v hv 123 #[] he (by intro _ _;go_simp) (fun w' hc=>op_halt hc hk _ d a b' h imm)
theorem step_any(h0:Core w base bC p nx tab M)(hk:M.Ok)(hn:M.nO<=1048576)(pc0:0<=M.pc)(b off len cap:Nat)(F:Nat->Nat->Int)(hat:At w b off (len*6) (insF F))(hf:flatOK len F=true):
 Calls Tryz.prog 31 #[.pointer (some ⟨bC,0,none⟩),.slice (some ⟨b,off,none⟩) len cap] w fun e w'=>e=.returned (.tuple #[])/\Below base w w'/\∃p' nx',Core w' base bC p' nx' tab (stepM len F M):=by
 by_cases hpc:(len:Int)<=M.pc
 ·exact step_out h0 _ len cap F hpc
 ·obtain⟨q,hq⟩:=Int.eq_ofNat_of_zero_le pc0
  have hql:q<len:=by omega
  have hl:len<=2000/\insOK F q=true:=by
   unfold flatOK at hf;simp only[Bool.and_eq_true,decide_eq_true_eq,List.all_eq_true,List.mem_range]at hf;refine⟨hf.1.1.2,?_⟩;have:=hf.1.2 q hql;unfold flatAt at this;simp only[Bool.and_eq_true]at this;exact this.1
  obtain⟨hl,hi⟩:=hl;unfold insOK at hi;have hs:=fun ho=>ins_shift hi ho
  obtain⟨⟨a1,a2⟩,⟨d1,d2⟩,⟨x1,x2⟩,⟨y1,y2⟩,⟨z1,z2⟩⟩:=ins_range hi;obtain⟨op,f0⟩:=Int.eq_ofNat_of_zero_le (show 0<=F q 0 by omega);obtain⟨d,f1⟩:=Int.eq_ofNat_of_zero_le d1;obtain⟨a,f2⟩:=Int.eq_ofNat_of_zero_le x1;obtain⟨b',f3⟩:=Int.eq_ofNat_of_zero_le y1;obtain⟨h,f5⟩:=Int.eq_ofNat_of_zero_le z1;have o1:1<=op:=by omega
  have o2:op<=34:=by omega
  obtain⟨v,hv,he⟩:=h0.tab.2 op o1 o2;have hsh:(op=12∨op=13)->0<=F q 4/\F q 4<=63:=fun ho=>hs (by omega)
  have hd:d<8:=by omega
  have ha:a<8:=by omega
  have hb:b'<8:=by omega
  unfold stepM;rw[if_neg hpc,show M.pc.toNat=q by omega,f0,f1,f2,f3,f5,Int.toNat_natCast,Int.toNat_natCast,Int.toNat_natCast,Int.toNat_natCast,Int.toNat_natCast];have hc:op=1∨op=2∨op=3∨op=4∨op=5∨op=6∨op=7∨op=8∨op=9∨op=10∨op=11∨op=12∨op=13∨op=14∨op=15∨op=16∨op=17∨op=18∨op=19∨op=20∨op=21∨op=22∨op=23∨op=24∨op=25∨op=26∨op=27∨op=28∨op=29∨op=30∨op=31∨op=32∨op=33∨op=34:=by omega
  rcases hc with rfl|rfl|rfl|rfl|rfl|rfl|rfl|rfl|rfl|rfl|rfl|rfl|rfl|rfl|rfl|rfl|rfl|rfl|rfl|rfl|rfl|rfl|rfl|rfl|rfl|rfl|rfl|rfl|rfl|rfl|rfl|rfl|rfl|rfl
  ·exact step_1 h0 hk b off len cap q F hq hql hl hat d a b' h (F q 4) f0 f1 f2 f3 rfl f5 hn hd ha hb hsh v hv he
  ·exact step_2 h0 hk b off len cap q F hq hql hl hat d a b' h (F q 4) f0 f1 f2 f3 rfl f5 hn hd ha hb hsh v hv he
  ·exact step_3 h0 hk b off len cap q F hq hql hl hat d a b' h (F q 4) f0 f1 f2 f3 rfl f5 hn hd ha hb hsh v hv he
  ·exact step_4 h0 hk b off len cap q F hq hql hl hat d a b' h (F q 4) f0 f1 f2 f3 rfl f5 hn hd ha hb hsh v hv he
  ·exact step_5 h0 hk b off len cap q F hq hql hl hat d a b' h (F q 4) f0 f1 f2 f3 rfl f5 hn hd ha hb hsh v hv he
  ·exact step_6 h0 hk b off len cap q F hq hql hl hat d a b' h (F q 4) f0 f1 f2 f3 rfl f5 hn hd ha hb hsh v hv he
  ·exact step_7 h0 hk b off len cap q F hq hql hl hat d a b' h (F q 4) f0 f1 f2 f3 rfl f5 hn hd ha hb hsh v hv he
  ·exact step_8 h0 hk b off len cap q F hq hql hl hat d a b' h (F q 4) f0 f1 f2 f3 rfl f5 hn hd ha hb hsh v hv he
  ·exact step_9 h0 hk b off len cap q F hq hql hl hat d a b' h (F q 4) f0 f1 f2 f3 rfl f5 hn hd ha hb hsh v hv he
  ·exact step_10 h0 hk b off len cap q F hq hql hl hat d a b' h (F q 4) f0 f1 f2 f3 rfl f5 hn hd ha hb hsh v hv he
  ·exact step_11 h0 hk b off len cap q F hq hql hl hat d a b' h (F q 4) f0 f1 f2 f3 rfl f5 hn hd ha hb hsh v hv he
  ·exact step_12 h0 hk b off len cap q F hq hql hl hat d a b' h (F q 4) f0 f1 f2 f3 rfl f5 hn hd ha hb hsh v hv he
  ·exact step_13 h0 hk b off len cap q F hq hql hl hat d a b' h (F q 4) f0 f1 f2 f3 rfl f5 hn hd ha hb hsh v hv he
  ·exact step_14 h0 hk b off len cap q F hq hql hl hat d a b' h (F q 4) f0 f1 f2 f3 rfl f5 hn hd ha hb hsh v hv he
  ·exact step_15 h0 hk b off len cap q F hq hql hl hat d a b' h (F q 4) f0 f1 f2 f3 rfl f5 hn hd ha hb hsh v hv he
  ·exact step_16 h0 hk b off len cap q F hq hql hl hat d a b' h (F q 4) f0 f1 f2 f3 rfl f5 hn hd ha hb hsh v hv he
  ·exact step_17 h0 hk b off len cap q F hq hql hl hat d a b' h (F q 4) f0 f1 f2 f3 rfl f5 hn hd ha hb hsh v hv he
  ·exact step_18 h0 hk b off len cap q F hq hql hl hat d a b' h (F q 4) f0 f1 f2 f3 rfl f5 hn hd ha hb hsh v hv he
  ·exact step_19 h0 hk b off len cap q F hq hql hl hat d a b' h (F q 4) f0 f1 f2 f3 rfl f5 hn hd ha hb hsh v hv he
  ·exact step_20 h0 hk b off len cap q F hq hql hl hat d a b' h (F q 4) f0 f1 f2 f3 rfl f5 hn hd ha hb hsh v hv he
  ·exact step_21 h0 hk b off len cap q F hq hql hl hat d a b' h (F q 4) f0 f1 f2 f3 rfl f5 hn hd ha hb hsh v hv he
  ·exact step_22 h0 hk b off len cap q F hq hql hl hat d a b' h (F q 4) f0 f1 f2 f3 rfl f5 hn hd ha hb hsh v hv he
  ·exact step_23 h0 hk b off len cap q F hq hql hl hat d a b' h (F q 4) f0 f1 f2 f3 rfl f5 hn hd ha hb hsh v hv he
  ·exact step_24 h0 hk b off len cap q F hq hql hl hat d a b' h (F q 4) f0 f1 f2 f3 rfl f5 hn hd ha hb hsh v hv he
  ·exact step_25 h0 hk b off len cap q F hq hql hl hat d a b' h (F q 4) f0 f1 f2 f3 rfl f5 hn hd ha hb hsh v hv he
  ·exact step_26 h0 hk b off len cap q F hq hql hl hat d a b' h (F q 4) f0 f1 f2 f3 rfl f5 hn hd ha hb hsh v hv he
  ·exact step_27 h0 hk b off len cap q F hq hql hl hat d a b' h (F q 4) f0 f1 f2 f3 rfl f5 hn hd ha hb hsh v hv he
  ·exact step_28 h0 hk b off len cap q F hq hql hl hat d a b' h (F q 4) f0 f1 f2 f3 rfl f5 hn hd ha hb hsh v hv he
  ·exact step_29 h0 hk b off len cap q F hq hql hl hat d a b' h (F q 4) f0 f1 f2 f3 rfl f5 hn hd ha hb hsh v hv he
  ·exact step_30 h0 hk b off len cap q F hq hql hl hat d a b' h (F q 4) f0 f1 f2 f3 rfl f5 hn hd ha hb hsh v hv he
  ·exact step_31 h0 hk b off len cap q F hq hql hl hat d a b' h (F q 4) f0 f1 f2 f3 rfl f5 hn hd ha hb hsh v hv he
  ·exact step_32 h0 hk b off len cap q F hq hql hl hat d a b' h (F q 4) f0 f1 f2 f3 rfl f5 hn hd ha hb hsh v hv he
  ·exact step_33 h0 hk b off len cap q F hq hql hl hat d a b' h (F q 4) f0 f1 f2 f3 rfl f5 hn hd ha hb hsh v hv he
  ·exact step_34 h0 hk b off len cap q F hq hql hl hat d a b' h (F q 4) f0 f1 f2 f3 rfl f5 hn hd ha hb hsh v hv he
end
end Go.Proofs.YtpbceodheeepoaaGreat
