import Derived.Test.YtplnpgohdgialaaOfLowSpec
import Derived.Test.YtplnpgohdgialaaOfCl
import Derived.Laws.EntriesVeiled
set_option maxHeartbeats 8000000
set_option maxRecDepth 20000
namespace Go.Proofs.Ytplnpgohdgialaa
open Go.RowKit
structure Lx(E:Nat->Prop)(w w':World):Prop where
 os:w'.os=w.os
 tape:w'.tape=w.tape
 output:w'.output=w.output
 size:w.heap.size<=w'.heap.size
 block:∀k,k<w.heap.size->¬E k->w'.heap[k]?=w.heap[k]?
theorem Lx.of_below{E:Nat->Prop}{w w':World}(h:Below w.heap.size w w'):Lx E w w':=⟨h.os,h.tape,h.output,h.size,fun k hk _=>h.block k hk⟩
theorem Lx.refl(E:Nat->Prop)(w:World):Lx E w w:=⟨rfl,rfl,rfl,Nat.le_refl _,fun _ _ _=>rfl⟩
theorem Lx.of_grown{E:Nat->Prop}{w w':World}{ob:Option Nat}(h:w.grownBy w' ob)(he:∀k,ob=some k->E k):Lx E w w':=⟨h.os,h.tape,h.output,h.size,fun k hk hn=>h.block k hk (fun e=>hn (he k e.symm))⟩
theorem Lx.set{E:Nat->Prop}{w w':World}(h:Lx E w w'){a:Addr}(ha:E a.block)(v:Value):Lx E w (w'.setCell a v):=
 ⟨h.os,h.tape,h.output,by simpa using h.size,fun k hk hn=>(Below.heap_setCell w' a v k (fun e=>hn (e▸ha))).trans (h.block k hk hn)⟩
theorem Lx.trans{E E':Nat->Prop}{w u v:World}(h:Lx E w u)(g:Lx E' u v)(he:∀k,k<w.heap.size->E' k->E k):Lx E w v:=
 ⟨g.os.trans h.os,g.tape.trans h.tape,g.output.trans h.output,Nat.le_trans h.size g.size,fun k hk hn=>(g.block k (Nat.lt_of_lt_of_le hk h.size) (fun e=>hn (he k hk e))).trans (h.block k hk hn)⟩
theorem Lx.cl{E:Nat->Prop}{w w':World}{b:Nat}{vs:List Value}(h:Lx E w w')(c:Cl w b vs)(hn:¬E b):Cl w' b vs:=
 ⟨Nat.lt_of_lt_of_le c.1 h.size,fun i hi=>(World.cell?_of_block (a:=⟨b,i,none⟩) (h.block b c.1 hn)).trans (c.2 i hi)⟩
theorem Lx.fz{E:Nat->Prop}{w w':World}{b:Nat}(h:Lx E w w')(hb:b<w.heap.size)(c:∀i,w.frozen? ⟨b,i,none⟩=false)(hn:¬E b):∀i,w'.frozen? ⟨b,i,none⟩=false:=
 fun i=>(World.frozen?_of_block (a:=⟨b,i,none⟩) (h.block b hb hn)).trans (c i)
theorem Lx.below{E:Nat->Prop}{w w':World}{B:Nat}(h:Lx E w w')(hB:B<=w.heap.size)(he:∀k,k<B->¬E k):Below B w w':=⟨h.os,h.tape,h.output,h.size,fun k hk=>h.block k (by omega) (he k hk)⟩
structure LP(u:World)(lb:Nat)(v:Value)(xs:List NV):Prop where
 C:u.cell? ⟨lb,0,none⟩=some v
 lt:lb<u.heap.size
 F:∀i,u.frozen? ⟨lb,i,none⟩=false
 O:u.ownsRow (lb+1) 31 6 v xs.length (ci xs)
structure Stp(lb:Nat)(E:Nat->Prop)(w:World)(v:Value)(w':World)(v':Value):Prop where
 x:Lx (fun k=>k=lb∨v.ownBlock=some k∨E k) w w'
 a:v'.ownBlock=v.ownBlock∨∃k,v'.ownBlock=some k/\w.heap.size<=k
theorem Stp.refl(lb:Nat)(E:Nat->Prop)(w:World)(v:Value):Stp lb E w v w v:=⟨Lx.refl _ _,.inl rfl⟩
theorem Stp.trans{lb:Nat}{E E':Nat->Prop}{w w1 w2:World}{v v1 v2:Value}(h:Stp lb E w v w1 v1)(g:Stp lb E' w1 v1 w2 v2)(he:∀k,k<w.heap.size->E' k->E k):Stp lb E w v w2 v2:=by
 have hs:=h.x.size;refine⟨h.x.trans g.x (fun k hk e=>?_),?_⟩
 ·rcases e with e|e|e
  ·exact .inl e
  ·rcases h.a with a|⟨k1,a,a1⟩
   ·exact .inr (.inl (a▸e))
   ·rw[a]at e;have:=Option.some.inj e;omega
  ·exact .inr (.inr (he k hk e))
 ·rcases g.a with a|⟨k,a,a1⟩
  ·rw[a];exact h.a
  ·exact .inr ⟨k,a,by omega⟩
theorem Stp.cl{lb:Nat}{E:Nat->Prop}{w w':World}{v v':Value}{b:Nat}{vs:List Value}(h:Stp lb E w v w' v')(c:Cl w b vs)(h1:b≠lb)(h2:v.ownBlock≠some b)(h3:¬E b):Cl w' b vs:=h.x.cl c (fun e=>by
 rcases e with e|e|e
 ·exact h1 e
 ·exact h2 e
 ·exact h3 e)
theorem Stp.nb{lb:Nat}{E:Nat->Prop}{w w':World}{v v':Value}{b:Nat}(h:Stp lb E w v w' v')(hb:b<w.heap.size)(h2:v.ownBlock≠some b):v'.ownBlock≠some b:=by
 rcases h.a with a|⟨k,a,a1⟩
 ·rw[a];exact h2
 ·rw[a];intro e;have:=Option.some.inj e;omega
theorem LP.nb{u:World}{lb:Nat}{v:Value}{xs:List NV}(h:LP u lb v xs):v.ownBlock≠some lb:=fun e=>by have:=(h.O.lt lb e).1;omega
theorem wpAnyL_append{P:Program}{md:Region.Mode}{ops:Array Oper}{Q:Exit->Act->World->Prop}{T:World->Prop}{s' fuel i:Nat}{listed:Array Bool}{a:Act}{w w':World}{o:Oper}(s x:Operand){t:TypeId}{v u v':Value}(ho:ops[i]?=some o)(hr:Region.ready md ops listed=[i])(hw:Region.wanted o (yielded ops a.tmps)=true)
 (hop:o.op=.call {callee:=.builtin .append,args:=#[s,x],argTypes:=#[t,t]})(hs:a.eval s=v)(hx:a.eval x=u)(hrun:(Builtin.append_ #[t,t] o.type #[v,u]).run P w=.ok v' w')(hT:T w')(h:T w'->wpAnyL P md ops Q T s' fuel (listed.setIfInBounds i true) (a.put o.dst v') w'):wpAnyL P md ops Q T s' (fuel+1) listed a w:=
 wpAnyL_call ho hr (fun K' hK=>by
  rw[if_pos hw];unfold Oper.wp execOp;simp only[hop,resolve,invoke,builtin,Sem.run_bind,Sem.run_pure,Result.andThen_ok,List.map_toArray,List.map_cons,List.map_nil,hs,hx,hrun];exact hK _ _ hT h)
theorem skipJump_any(c:Int)(w:World):Calls Try.prog 45 #[.int .i64 c] w fun e w'=>e=.returned (.int .i64 (notI c))/\w'=w:=by
 go_enter Try.func45,Try.ntmps45;go_wp2;all_goals(go_ret;refine⟨ret_int ?_,rfl⟩;simp_all[notI])
theorem add_any(lb:Nat)(v:Value)(xs:List NV)(x:NV)(w:World)(h:LP w lb v xs)(hn:xs.length<=4000):
 Calls Try.prog 26 #[.pointer (some ⟨lb,0,none⟩),.agg #[.int .i64 x.op,.int .i64 x.d,.int .i64 x.a,.int .i64 x.b,.int .i64 x.imm,.int .i64 x.h]] w fun e w'=>e=.returned (.tuple #[])/\∃v',LP w' lb v' (xs++[x])/\Stp lb (fun _=>False) w v w' v':=by
 obtain⟨ao,kl,cl,hv⟩:=row_slice h.O
 subst hv
 have H:Hid (LP w lb (.slice ao kl cl) xs):=h
 have lt:=h.lt
 clear h
 obtain⟨iS,gS,gS0,gS1,gS2⟩:=info_parts info_ins6
 have HIS:Hid (_/\_/\_/\_):=⟨gS,gS0,gS1,gS2⟩
 clear gS gS0 gS1 gS2
 go_enter Try.func26,Try.ntmps26
 go_upto_region 1 with fail
 obtain⟨u,hu,hb,hc⟩:∃y,w.alloc (.cells #[.int .i64 x.op,.int .i64 x.d,.int .i64 x.a,.int .i64 x.b,.int .i64 x.imm,.int .i64 x.h] 31)=y/\Below w.heap.size w y/\Cl y w.heap.size [.int .i64 x.op,.int .i64 x.d,.int .i64 x.a,.int .i64 x.b,.int .i64 x.imm,.int .i64 x.h]:=⟨_,rfl,(Below.refl _ _).alloc (Nat.le_refl _) _,Cl.new⟩
 rw[hu]
 have C0:u.cell? ⟨lb,0,none⟩=some (.slice ao kl cl):=(hb.cell (p:=⟨lb,0,none⟩) lt).trans H.out.C
 have O0:Hid (u.ownsRow (lb+1) 31 6 (.slice ao kl cl) xs.length (ci xs)):=row_belowU H.out.O hb
 have BU:Hid (Below w.heap.size w u):=hb
 have zu:=hc.1
 obtain⟨xb,hxb⟩:∃y,w.heap.size=y:=⟨_,rfl⟩
 have HXB:Hid (w.heap.size=xb):=hxb
 have NB:Hid ((Value.slice ao kl cl).ownBlock≠some xb):=(by rw[<-hxb];exact fun e=>by have:=(H.out.O.lt _ e).2;omega:(Value.slice ao kl cl).ownBlock≠some xb)
 have lx:lb<xb:=by omega
 rw[hxb]at hc zu⊢
 have T0:u.cell? ⟨lb,0,none⟩=some (.slice ao kl cl)/\Cl u xb [.int .i64 x.op,.int .i64 x.d,.int .i64 x.a,.int .i64 x.b,.int .i64 x.imm,.int .i64 x.h]:=⟨C0,hc⟩
 clear hu hb hc hxb C0
 have r0:∀w':World,(w'.cell? ⟨lb,0,none⟩=some (.slice ao kl cl)/\Cl w' xb [.int .i64 x.op,.int .i64 x.d,.int .i64 x.a,.int .i64 x.b,.int .i64 x.imm,.int .i64 x.h])->w'.cell? ⟨lb,0,none⟩=some (.slice ao kl cl):=fun w' h=>h.1
 have x0:∀w':World,(w'.cell? ⟨lb,0,none⟩=some (.slice ao kl cl)/\Cl w' xb [.int .i64 x.op,.int .i64 x.d,.int .i64 x.a,.int .i64 x.b,.int .i64 x.imm,.int .i64 x.h])->w'.cell? ⟨xb,0,none⟩=some (.int .i64 x.op):=fun w' h=>h.2.2 0 (by simp)
 have x1:∀w':World,(w'.cell? ⟨lb,0,none⟩=some (.slice ao kl cl)/\Cl w' xb [.int .i64 x.op,.int .i64 x.d,.int .i64 x.a,.int .i64 x.b,.int .i64 x.imm,.int .i64 x.h])->w'.cell? ⟨xb,1,none⟩=some (.int .i64 x.d):=fun w' h=>h.2.2 1 (by simp)
 have x2:∀w':World,(w'.cell? ⟨lb,0,none⟩=some (.slice ao kl cl)/\Cl w' xb [.int .i64 x.op,.int .i64 x.d,.int .i64 x.a,.int .i64 x.b,.int .i64 x.imm,.int .i64 x.h])->w'.cell? ⟨xb,2,none⟩=some (.int .i64 x.a):=fun w' h=>h.2.2 2 (by simp)
 have x3:∀w':World,(w'.cell? ⟨lb,0,none⟩=some (.slice ao kl cl)/\Cl w' xb [.int .i64 x.op,.int .i64 x.d,.int .i64 x.a,.int .i64 x.b,.int .i64 x.imm,.int .i64 x.h])->w'.cell? ⟨xb,3,none⟩=some (.int .i64 x.b):=fun w' h=>h.2.2 3 (by simp)
 have x4:∀w':World,(w'.cell? ⟨lb,0,none⟩=some (.slice ao kl cl)/\Cl w' xb [.int .i64 x.op,.int .i64 x.d,.int .i64 x.a,.int .i64 x.b,.int .i64 x.imm,.int .i64 x.h])->w'.cell? ⟨xb,4,none⟩=some (.int .i64 x.imm):=fun w' h=>h.2.2 4 (by simp)
 have x5:∀w':World,(w'.cell? ⟨lb,0,none⟩=some (.slice ao kl cl)/\Cl w' xb [.int .i64 x.op,.int .i64 x.d,.int .i64 x.a,.int .i64 x.b,.int .i64 x.imm,.int .i64 x.h])->w'.cell? ⟨xb,5,none⟩=some (.int .i64 x.h):=fun w' h=>h.2.2 5 (by simp)
 have OD:Hid (u.drew.ownsRow (lb+1) 31 6 (.slice ao kl cl) xs.length (ci xs)):=O0.out.drew
 have BD:Hid (Below w.heap.size w u.drew):=BU.out.trans ((Below.refl _ _).drew)
 have TD:u.drew.cell? ⟨lb,0,none⟩=some (.slice ao kl cl)/\Cl u.drew xb [.int .i64 x.op,.int .i64 x.d,.int .i64 x.a,.int .i64 x.b,.int .i64 x.imm,.int .i64 x.h]:=⟨T0.1,T0.2.below (Below.refl _ _).drew⟩
 refine wp_region_L (T:=fun w'=>w'.cell? ⟨lb,0,none⟩=some (.slice ao kl cl)/\Cl w' xb [.int .i64 x.op,.int .i64 x.d,.int .i64 x.a,.int .i64 x.b,.int .i64 x.imm,.int .i64 x.h]) (s:=10) (by kernel_rfl) TD (fun hHeld=>?_)
 clear T0 TD O0 BU
 have zd:=hHeld.2.1
 generalize u.drew=t0 at hHeld OD BD zd⊢
 refine wpAnyL_tk 0 ?k1v rfl ?k1y ?k1r
 case k1y=>(intro w hSw;(try dsimp only at hSw);go_simp;try with_reducible rfl)
 try simp only[Act.put,List.getElem_toArray,List.getElem_cons_zero,List.setIfInBounds_toArray,List.set_cons_zero,List.set_cons_succ]
 refine wpAnyL_tk 1 ?k2v rfl ?k2y ?k2r
 case k2y=>(intro w hSw;(try dsimp only at hSw);go_simp;try with_reducible rfl)
 try simp only[Act.put,List.getElem_toArray,List.getElem_cons_zero,List.getElem_cons_succ,List.setIfInBounds_toArray,List.set_cons_zero,List.set_cons_succ]
 refine wpAnyL_tk 2 ?k3v rfl ?k3y ?k3r
 case k3y=>(intro w hSw;(try dsimp only at hSw);go_simp;try with_reducible rfl)
 try simp only[Act.put,List.getElem_toArray,List.getElem_cons_zero,List.getElem_cons_succ,List.setIfInBounds_toArray,List.set_cons_zero,List.set_cons_succ]
 refine wpAnyL_tk 3 ?k4v rfl ?k4y ?k4r
 case k4y=>(intro w hSw;(try dsimp only at hSw);go_simp;try with_reducible rfl)
 try simp only[Act.put,List.getElem_toArray,List.getElem_cons_zero,List.getElem_cons_succ,List.setIfInBounds_toArray,List.set_cons_zero,List.set_cons_succ]
 refine wpAnyL_tk 4 ?k5v rfl ?k5y ?k5r
 case k5y=>(intro w hSw;(try dsimp only at hSw);go_simp;try with_reducible rfl)
 try simp only[Act.put,List.getElem_toArray,List.getElem_cons_zero,List.getElem_cons_succ,List.setIfInBounds_toArray,List.set_cons_zero,List.set_cons_succ]
 refine wpAnyL_tk 5 ?k6v rfl ?k6y ?k6r
 case k6y=>(intro w hSw;(try dsimp only at hSw);go_simp;try with_reducible rfl)
 try simp only[Act.put,List.getElem_toArray,List.getElem_cons_zero,List.getElem_cons_succ,List.setIfInBounds_toArray,List.set_cons_zero,List.set_cons_succ]
 refine wpAnyL_call (i:=6) rfl (by kernel_rfl) (fun KK hK=>?_)
 go_simp
 obtain⟨t1,ht1,hbA,hnw⟩:∃y,t0.alloc (.cells #[.int .i64 x.op,.int .i64 x.d,.int .i64 x.a,.int .i64 x.b,.int .i64 x.imm,.int .i64 x.h] 31)=y/\Below t0.heap.size t0 y/\(∀j u,(inL x)[j]?=some u->y.cell? ((⟨t0.heap.size,0,none⟩:Addr).add j)=some u):=⟨_,rfl,(Below.refl _ _).alloc (Nat.le_refl _) _,cells_new6 _ _ _⟩
 rw[ht1]
 have OE:Hid (t1.ownsRow (lb+1) 31 6 (.slice ao kl cl) xs.length (ci xs)):=row_belowU OD.out hbA
 have BE:Hid (Below w.heap.size w t1):=BD.out.trans (hbA.mono BD.out.size)
 have TE:t1.cell? ⟨lb,0,none⟩=some (.slice ao kl cl)/\Cl t1 xb [.int .i64 x.op,.int .i64 x.d,.int .i64 x.a,.int .i64 x.b,.int .i64 x.imm,.int .i64 x.h]:=⟨(hbA.cell (p:=⟨lb,0,none⟩) (by show lb<_;omega)).trans hHeld.1,hHeld.2.below hbA⟩
 have NW:Hid _:=hnw
 have zt:=hbA.size
 clear ht1 hbA hnw OD BD
 refine hK.out _ _ TE (fun hHeld1=>?_)
 clear hK KK
 try simp only[Act.put,List.getElem_toArray,List.getElem_cons_zero,List.getElem_cons_succ,List.setIfInBounds_toArray,List.set_cons_zero,List.set_cons_succ]
 obtain⟨v',w5,hrun,hown,hgrow,_,hat⟩:=run_append_own_at (P:=Try.prog) t1 (lb+1) 38 38 31 iS _ 6 48 Try.underlying38 HIS.out.1 HIS.out.2.1 HIS.out.2.2.1 HIS.out.2.2.2 rfl (by decide) (.slice ao kl cl) xs.length (ci xs) OE.out ⟨t0.heap.size,0,none⟩ 1 1 (inL x) rfl NW.out (by rw[<-ci_one];exact ci_flat _) (by unfold maxLen;omega) (by omega) (by omega)
 have NL:(Value.slice ao kl cl).ownBlock≠some lb:=fun e=>by have:=(OE.out.lt _ e).1;omega
 have T5:w5.cell? ⟨lb,0,none⟩=some (.slice ao kl cl)/\Cl w5 xb [.int .i64 x.op,.int .i64 x.d,.int .i64 x.a,.int .i64 x.b,.int .i64 x.imm,.int .i64 x.h]:=
  ⟨(World.cell?_of_block (a:=⟨lb,0,none⟩) (hgrow.block lb (by omega) (fun e=>NL e.symm))).trans TE.1,⟨Nat.lt_of_lt_of_le TE.2.1 hgrow.size,fun i hi=>(World.cell?_of_block (a:=⟨xb,i,none⟩) (hgrow.block xb TE.2.1 (fun e=>NB.out e.symm))).trans (TE.2.2 i hi)⟩⟩
 refine wpAnyL_append (.tmp 8) (.tmp 10) (i:=7) rfl (by kernel_rfl) (by kernel_rfl) rfl rfl rfl hrun T5 (fun hHeld5=>?_)
 try simp only[Act.put,List.getElem_toArray,List.getElem_cons_zero,List.getElem_cons_succ,List.setIfInBounds_toArray,List.set_cons_zero,List.set_cons_succ]
 refine wpAnyL_tkT 8 ?k7v rfl ?k7y ?k7r
 case k7y=>(intro w hSw;(try dsimp only at hSw);go_simp;try with_reducible rfl)
 try simp only[Act.put,List.getElem_toArray,List.getElem_cons_zero,List.getElem_cons_succ,List.setIfInBounds_toArray,List.set_cons_zero,List.set_cons_succ]
 refine wpAnyL_tk 9 ?k8v rfl ?k8y ?k8r
 case k8y=>(intro w hSw;(try dsimp only at hSw);go_simp;try with_reducible rfl)
 try simp only[Act.put,List.getElem_toArray,List.getElem_cons_zero,List.getElem_cons_succ,List.setIfInBounds_toArray,List.set_cons_zero,List.set_cons_succ]
 have HO5:w5.ownsRow (lb+1) 31 6 v' (xs++[x]).length (ci (xs++[x])):=by rw[List.length_append,ci_app,ci_one];exact hown
 have F5:∀i,w5.frozen? ⟨lb,i,none⟩=false:=fun i=>(World.frozen?_of_block (a:=⟨lb,i,none⟩) (hgrow.block lb (by omega) (fun e=>NL e.symm))).trans ((BE.out.frozen (p:=⟨lb,i,none⟩) lt).trans (H.out.F i))
 have l5:lb<w5.heap.size:=by have:=hgrow.size;omega
 have P5:Hid (LP (w5.setCell ⟨lb,0,none⟩ v') lb v' (xs++[x])):=⟨by simp[go_sem,T5.1],by simpa using l5,fun i=>by simpa using F5 i,ownsRow_setCell_below HO5 (by show lb<_;omega) _⟩
 have S5:Hid (Stp lb (fun _=>False) w (.slice ao kl cl) (w5.setCell ⟨lb,0,none⟩ v') v'):=⟨((Lx.of_below BE.out).trans (Lx.of_grown (E:=fun k=>k=lb∨(Value.slice ao kl cl).ownBlock=some k∨False) hgrow (fun k hk=>.inr (.inl hk))) (fun _ _ h=>h)).set (.inl rfl) _,by
  rcases hat with e|e
  ·exact .inl e
  ·exact .inr ⟨_,e,BE.out.size⟩⟩
 obtain⟨ao5,k5,c5,hv5⟩:=row_slice hown
 subst hv5
 have t5:=T5.1
 clear hown hgrow hat hrun HO5 OE BE NW T5 TE hHeld hHeld1 hHeld5 r0 x0 x1 x2 x3 x4 x5
 refine wpAnyL_store rfl (by kernel_rfl) (by kernel_rfl) (fun KK hK=>?_)
 go_simp
 refine hK.out _ _ ?_
 clear hK KK
 go_wp2
 go_end0
 exact⟨rfl,_,P5.out,S5.out⟩
structure Lab(w:World)(lb xb jb pb fb:Nat)(jv:Value)(pl:Int):Prop where
 X:Cl w xb [.pointer (some ⟨lb,0,none⟩)]
 J:Cl w jb [jv]
 P:Cl w pb [.int .i64 pl]
 B:Cl w fb [.func (.func 50) #[] #[.pointer (some ⟨jb,0,none⟩),.pointer (some ⟨pb,0,none⟩),.pointer (some ⟨xb,0,none⟩)]]
 JF:∀i,w.frozen? ⟨jb,i,none⟩=false
 PF:∀i,w.frozen? ⟨pb,i,none⟩=false
 n1:xb≠jb
 n2:xb≠pb
 n3:xb≠fb
 n4:jb≠pb
 n5:jb≠fb
 n6:pb≠fb
def Off(lb:Nat)(v:Value)(xb jb pb fb:Nat):Prop:=(xb≠lb/\jb≠lb/\pb≠lb/\fb≠lb)/\v.ownBlock≠some xb/\v.ownBlock≠some jb/\v.ownBlock≠some pb/\v.ownBlock≠some fb
theorem Stp.fz{lb:Nat}{E:Nat->Prop}{w w':World}{v v':Value}{b:Nat}(h:Stp lb E w v w' v')(hb:b<w.heap.size)(c:∀i,w.frozen? ⟨b,i,none⟩=false)(h1:b≠lb)(h2:v.ownBlock≠some b)(h3:¬E b):∀i,w'.frozen? ⟨b,i,none⟩=false:=h.x.fz hb c (fun e=>by
 rcases e with e|e|e
 ·exact h1 e
 ·exact h2 e
 ·exact h3 e)
theorem Lab.step{w w':World}{lb xb jb pb fb:Nat}{jv v v':Value}{pl:Int}{E:Nat->Prop}(h:Lab w lb xb jb pb fb jv pl)(o:Off lb v xb jb pb fb)(s:Stp lb E w v w' v')(h1:¬E xb)(h2:¬E jb)(h3:¬E pb)(h4:¬E fb):Lab w' lb xb jb pb fb jv pl/\Off lb v' xb jb pb fb:=
 ⟨⟨s.cl h.X o.1.1 o.2.1 h1,s.cl h.J o.1.2.1 o.2.2.1 h2,s.cl h.P o.1.2.2.1 o.2.2.2.1 h3,s.cl h.B o.1.2.2.2 o.2.2.2.2 h4,s.fz h.J.1 h.JF o.1.2.1 o.2.2.1 h2,s.fz h.P.1 h.PF o.1.2.2.1 o.2.2.2.1 h3,h.n1,h.n2,h.n3,h.n4,h.n5,h.n6⟩,o.1,s.nb h.X.1 o.2.1,s.nb h.J.1 o.2.2.1,s.nb h.P.1 o.2.2.2.1,s.nb h.B.1 o.2.2.2.2⟩
theorem label_any(lb:Nat)(w:World):
 Calls Try.prog 44 #[.pointer (some ⟨lb,0,none⟩)] w fun e w'=>e=.returned (.tuple #[.func (.func 51) #[] #[.pointer (some ⟨w.heap.size+1,0,none⟩),.pointer (some ⟨w.heap.size,0,none⟩),.pointer (some ⟨w.heap.size+1+1+1,0,none⟩)],.func (.func 52) #[] #[.pointer (some ⟨w.heap.size,0,none⟩),.pointer (some ⟨w.heap.size+1+1,0,none⟩),.pointer (some ⟨w.heap.size+1+1+1,0,none⟩)]])/\Below w.heap.size w w'/\Lab w' lb w.heap.size (w.heap.size+1) (w.heap.size+1+1) (w.heap.size+1+1+1) (.slice none 0 0) 0:=by
 go_enter Try.func44,Try.ntmps44;go_wp2;refine bodyPost_ret (v:=.tuple #[.func (.func 51) #[] #[.pointer (some ⟨w.heap.size+1,0,none⟩),.pointer (some ⟨w.heap.size,0,none⟩),.pointer (some ⟨w.heap.size+1+1+1,0,none⟩)],.func (.func 52) #[] #[.pointer (some ⟨w.heap.size,0,none⟩),.pointer (some ⟨w.heap.size+1+1,0,none⟩),.pointer (some ⟨w.heap.size+1+1+1,0,none⟩)]]) (by simp[results,Try.results44,go_sem]) rfl ⟨rfl,?_,?_⟩
 ·exact((((Below.refl _ _).alloc (Nat.le_refl _) _).alloc (by simp) _).alloc (by simp;omega) _).alloc (by simp;omega) _
 ·refine⟨⟨by simp<;>omega,?_⟩,⟨by simp<;>omega,?_⟩,⟨by simp<;>omega,?_⟩,⟨by simp,?_⟩,fun i=>by simp[go_sem],fun i=>by simp[go_sem],by omega,by omega,by omega,by omega,by omega,by omega⟩
  all_goals
   intro i hi;match i,hi with
   |0,_=>simp[go_sem]
theorem fill0_any(lb xb jb pb fb:Nat)(pl:Int)(w:World)(h:Lab w lb xb jb pb fb (.slice none 0 0) pl):
 Calls Try.prog 50 #[.pointer (some ⟨jb,0,none⟩),.pointer (some ⟨pb,0,none⟩),.pointer (some ⟨xb,0,none⟩)] w fun e w'=>e=.returned (.tuple #[])/\w'=w:=by
 have j0:w.cell? ⟨jb,0,none⟩=some (.slice none 0 0):=h.J.2 0 (by simp);have jl:=h.J.1;clear h;go_enter Try.func50,Try.ntmps50;go_wp2;go_loopw [7](fun iv wr=>iv=.int .i64 0/\wr=w)(fun _ _=>0)
 case atStart=>exact⟨rfl,rfl⟩
 case round=>
  obtain⟨rfl,rfl⟩:=hrel;go_wp2;go_end0;exact⟨rfl,rfl⟩
theorem fill1_any(lb xb jb pb fb jr jc k:Nat)(pl:Int)(v:Value)(A R:List NV)(x:NV)(w:World)(hL:Lab w lb xb jb pb fb (.slice (some ⟨jr,0,none⟩) 1 jc) pl)(hj:Cl w jr [.int .i64 (k:Int)])(hk:A.length=k)(hP:LP w lb v (A++x::R)):
 Calls Try.prog 50 #[.pointer (some ⟨jb,0,none⟩),.pointer (some ⟨pb,0,none⟩),.pointer (some ⟨xb,0,none⟩)] w fun e w'=>e=.returned (.tuple #[])/\LP w' lb v (A++{x with imm:=pl}::R)/\Stp lb (fun _=>False) w v w' v:=by
 have HP:Hid (LP w lb v (A++x::R)):=hP;have HL:Hid (Lab w lb xb jb pb fb (.slice (some ⟨jr,0,none⟩) 1 jc) pl):=hL;have HJ:Hid (Cl w jr [.int .i64 (k:Int)]):=hj;have HK:Hid (A.length=k):=hk;obtain⟨g,c,hv⟩:=row_some2 hP.O (by simp;omega);subst hv;obtain⟨n,hn'⟩:∃y,(A++x::R).length=y:=⟨_,rfl⟩
 have hkn:k<n:=by rw[<-hn',<-hk];simp
 have HO:Hid (w.ownsRow (lb+1) 31 6 (.slice (some ⟨g,0,none⟩) n c) n (ci (A++x::R))):=(by rw[<-hn'];exact hP.O:w.ownsRow (lb+1) 31 6 (.slice (some ⟨g,0,none⟩) n c) n (ci (A++x::R)))
 have HN:Hid ((A++x::R).length=n):=hn';rw[hn']at hP⊢;rw[hn']at HP;have j0:w.cell? ⟨jb,0,none⟩=some (.slice (some ⟨jr,0,none⟩) 1 jc):=hL.J.2 0 (by simp);have jl:=hL.J.1;clear hP hL hj hk hn';go_enter Try.func50,Try.ntmps50;go_wp2;clear j0;go_loopw [7](fun iv wr=>(iv=.int .i64 0/\wr=w)∨(iv=.int .i64 1/\wr=w.drew.setCell ⟨g,k*6+4,none⟩ (.int .i64 pl)))(fun iv _=>1-(intOf iv).toNat)
 case atStart=>exact .inl ⟨rfl,rfl⟩
 case round=>
  rcases hrel with⟨rfl,rfl⟩|⟨rfl,hw⟩;rotate_left
  ·subst hw
   have P5:Hid (LP (w.drew.setCell ⟨g,k*6+4,none⟩ (.int .i64 pl)) lb (.slice (some ⟨g,0,none⟩) n c) (A++{x with imm:=pl}::R)):=(by
    have gl:=(HO.out.lt g rfl).1;refine⟨(World.cell?_setCell_far _ _ _ _ (show g≠lb by omega)).trans HP.out.C,by simpa using HP.out.lt,fun i=>by simpa using HP.out.F i,?_⟩;have h:=(HO.out.drew.stored (k*6+4) (.int .i64 pl)).1;rw[<-HK.out,ci_set4]at h;have hl:(A++{x with imm:=pl}::R).length=n:=by rw[<-HN.out];simp
    rw[hl,<-HK.out];exact h:LP (w.drew.setCell ⟨g,k*6+4,none⟩ (.int .i64 pl)) lb (.slice (some ⟨g,0,none⟩) n c) (A++{x with imm:=pl}::R))
   go_wp2;go_end0
   exact⟨rfl,P5.out,⟨(Lx.of_below (Below.refl _ _).drew).set (.inr (.inl rfl)) _,.inl rfl⟩⟩
  have q0:wr.cell? ⟨jr,0,none⟩=some (.int .i64 (k:Int)):=HJ.out.2 0 (by simp)
  have ql:=HJ.out.1
  go_upto_region 3 with fail
  clear q0
  have rx:∀w',Below wr.heap.size wr w'->w'.cell? ⟨xb,0,none⟩=some (.pointer (some ⟨lb,0,none⟩)):=fun w' h=>(HL.out.X.below h).2 0 (by simp)
  have rp:∀w',Below wr.heap.size wr w'->w'.cell? ⟨pb,0,none⟩=some (.int .i64 pl):=fun w' h=>(HL.out.P.below h).2 0 (by simp)
  have rl:∀w',Below wr.heap.size wr w'->w'.cell? ⟨lb,0,none⟩=some (.slice (some ⟨g,0,none⟩) n c):=fun w' h=>(h.cell (p:=⟨lb,0,none⟩) HP.out.lt).trans HP.out.C
  have hkn':(k:Int)<(n:Int):=by omega
  refine wp_region_L (T:=fun w'=>Below wr.heap.size wr w') (s:=8) (by kernel_rfl) (Below.refl _ _).drew (fun hHeld=>?_)
  refine wpAnyL_tk 0 ?k1v rfl ?k1y ?k1r
  case k1y=>(intro w hSw;(try dsimp only at hSw);go_simp;try with_reducible rfl)
  try simp only[Act.put,List.getElem_toArray,List.getElem_cons_zero,List.setIfInBounds_toArray,List.set_cons_zero,List.set_cons_succ]
  refine wpAnyL_tk 1 ?k2v rfl ?k2y ?k2r
  case k2y=>(intro w hSw;(try dsimp only at hSw);go_simp;try with_reducible rfl)
  try simp only[Act.put,List.getElem_toArray,List.getElem_cons_zero,List.getElem_cons_succ,List.setIfInBounds_toArray,List.set_cons_zero,List.set_cons_succ]
  refine wpAnyL_tk 2 ?k3v rfl ?k3y ?k3r
  case k3y=>(intro w hSw;(try dsimp only at hSw);go_simp;try with_reducible rfl)
  try simp only[Act.put,List.getElem_toArray,List.getElem_cons_zero,List.getElem_cons_succ,List.setIfInBounds_toArray,List.set_cons_zero,List.set_cons_succ]
  refine wpAnyL_tk 3 ?k4v rfl ?k4y ?k4r
  case k4y=>(intro w hSw;(try dsimp only at hSw);go_simp;try with_reducible rfl)
  try simp only[Act.put,List.getElem_toArray,List.getElem_cons_zero,List.getElem_cons_succ,List.setIfInBounds_toArray,List.set_cons_zero,List.set_cons_succ]
  refine wpAnyL_tk 4 ?k5v rfl ?k5y ?k5r
  case k5y=>(intro w hSw;(try dsimp only at hSw);go_simp;try with_reducible rfl)
  try simp only[Act.put,List.getElem_toArray,List.getElem_cons_zero,List.getElem_cons_succ,List.setIfInBounds_toArray,List.set_cons_zero,List.set_cons_succ]
  refine wpAnyL_tk 5 ?k6v rfl ?k6y ?k6r
  case k6y=>(intro w hSw;(try dsimp only at hSw);go_simp;try with_reducible rfl)
  try simp only[Act.put,List.getElem_toArray,List.getElem_cons_zero,List.getElem_cons_succ,List.setIfInBounds_toArray,List.set_cons_zero,List.set_cons_succ]
  refine wpAnyL_tkT 6 ?k7v rfl ?k7y ?k7r
  case k7y=>(intro w hSw;(try dsimp only at hSw);go_simp;try with_reducible rfl)
  try simp only[Act.put,List.getElem_toArray,List.getElem_cons_zero,List.getElem_cons_succ,List.setIfInBounds_toArray,List.set_cons_zero,List.set_cons_succ]
  refine wpAnyL_tk 7 ?k8v rfl ?k8y ?k8r
  case k8y=>(intro w hSw;(try dsimp only at hSw);go_simp;try with_reducible rfl)
  try simp only[Act.put,List.getElem_toArray,List.getElem_cons_zero,List.getElem_cons_succ,List.setIfInBounds_toArray,List.set_cons_zero,List.set_cons_succ]
  have f6:∀i,wr.drew.frozen? ⟨g,i,none⟩=false:=fun i=>HO.out.drew.frozenAt i
  have l6:g<wr.drew.heap.size:=(HO.out.drew.lt g rfl).2
  have e4:wr.drew.cell? ⟨g,k*6+4,none⟩=some (.int .i64 x.imm):=by
   rw[HO.out.drew.cellAt _ (by omega),<-HK.out]
   exact ci_at4 A R x
  refine wpAnyL_store rfl (by kernel_rfl) (by kernel_rfl) (fun KK hK=>?_)
  go_simp
  refine hK.out _ _ ?_
  clear hK KK rx rp rl f6 l6 e4 hHeld
  go_wp2
  go_roundw
  case rel=>exact .inr ⟨rfl,rfl⟩
  case measure=>simp[intOf]
theorem set0_any(lb xb jb pb fb:Nat)(pl:Int)(v:Value)(xs:List NV)(w:World)(hL:Lab w lb xb jb pb fb (.slice none 0 0) pl)(hP:LP w lb v xs)(ho:Off lb v xb jb pb fb):
 Calls Try.prog 52 #[.pointer (some ⟨xb,0,none⟩),.pointer (some ⟨pb,0,none⟩),.pointer (some ⟨fb,0,none⟩)] w fun e w'=>e=.returned (.tuple #[])/\LP w' lb v xs/\Lab w' lb xb jb pb fb (.slice none 0 0) (xs.length:Int)/\Stp lb (fun k=>k=pb) w v w' v:=by
 obtain⟨aov,kv,cv,hv⟩:=row_slice hP.O;subst hv;have hkv:kv=xs.length:=by
  rcases hP.O.2 with⟨e,e2⟩|⟨g,cap,cur,e,_⟩
  ·have:=(Value.slice.inj e).2.1;omega
  ·exact(Value.slice.inj e).2.1
 have HP:Hid (LP w lb (.slice aov kv cv) xs):=hP;have HL:Hid (Lab w lb xb jb pb fb (.slice none 0 0) pl):=hL;have HO:Hid (Off lb (.slice aov kv cv) xb jb pb fb):=ho;have x0:w.cell? ⟨xb,0,none⟩=some (.pointer (some ⟨lb,0,none⟩)):=hL.X.2 0 (by simp);have p0:w.cell? ⟨pb,0,none⟩=some (.int .i64 pl):=hL.P.2 0 (by simp);have b0:w.cell? ⟨fb,0,none⟩=some (.func (.func 50) #[] #[.pointer (some ⟨jb,0,none⟩),.pointer (some ⟨pb,0,none⟩),.pointer (some ⟨xb,0,none⟩)]):=hL.B.2 0 (by simp);have l0:=hP.C;have z1:=hL.X.1;have z2:=hL.P.1;have z3:=hL.B.1;have z4:=hP.lt;have pf:=hL.PF;have npf:fb≠pb:=hL.n6.symm;obtain⟨u,hu,LU,PU,SU⟩:∃y,w.setCell ⟨pb,0,none⟩ (.int .i64 (kv:Int))=y/\Hid (Lab y lb xb jb pb fb (.slice none 0 0) (kv:Int))/\Hid (LP y lb (.slice aov kv cv) xs)/\Hid (Stp lb (fun k=>k=pb) w (.slice aov kv cv) y (.slice aov kv cv)):=by
  have far:∀{b o:Nat},b≠pb->(w.setCell ⟨pb,0,none⟩ (.int .i64 (kv:Int))).cell? ⟨b,o,none⟩=w.cell? ⟨b,o,none⟩:=fun h=>World.cell?_setCell_far _ _ _ _ (show pb≠_ from fun e=>h e.symm)
  have cl:∀{b:Nat}{vs:List Value},b≠pb->Cl w b vs->Cl (w.setCell ⟨pb,0,none⟩ (.int .i64 (kv:Int))) b vs:=fun h c=>⟨by simpa using c.1,fun i hi=>(far h).trans (c.2 i hi)⟩
  refine⟨_,rfl,⟨cl hL.n2 hL.X,cl hL.n4 hL.J,⟨by simpa using hL.P.1,fun i hi=>?_⟩,cl hL.n6.symm hL.B,fun i=>by simpa using hL.JF i,fun i=>by simpa using hL.PF i,hL.n1,hL.n2,hL.n3,hL.n4,hL.n5,hL.n6⟩,⟨(far (fun e=>ho.1.2.2.1 e.symm)).trans hP.C,by simpa using hP.lt,fun i=>by simpa using hP.F i,ownsRow_setCell_other hP.O ho.2.2.2.1 _⟩,⟨(Lx.refl _ _).set (.inr (.inr rfl)) _,.inl rfl⟩⟩;match i,hi with
  |0,_=>simp[go_sem,p0]
 have HKV:Hid (kv=xs.length):=hkv;have HU:Hid (w.setCell ⟨pb,0,none⟩ (.int .i64 (kv:Int))=u):=hu;clear hL hP ho hkv hu;go_enter Try.func52,Try.ntmps52;go_wp2_with fail;rw[HU.out];refine(fill0_any lb xb jb pb fb (kv:Int) u LU.out).mono ?_;rintro e u'⟨rfl,hw⟩;rw[hw];go_wp2;go_end0;exact⟨rfl,PU.out,by rw[<-HKV.out];exact LU.out,SU.out⟩
theorem set1_any(lb xb jb pb fb jr jc k:Nat)(pl:Int)(v:Value)(A R:List NV)(x:NV)(w:World)(hj:Cl w jr [.int .i64 (k:Int)])(hk:A.length=k)(hjp:jr≠pb)(hL:Lab w lb xb jb pb fb (.slice (some ⟨jr,0,none⟩) 1 jc) pl)(hP:LP w lb v (A++x::R))(ho:Off lb v xb jb pb fb):
 Calls Try.prog 52 #[.pointer (some ⟨xb,0,none⟩),.pointer (some ⟨pb,0,none⟩),.pointer (some ⟨fb,0,none⟩)] w fun e w'=>e=.returned (.tuple #[])/\LP w' lb v (A++{x with imm:=((A++x::R).length:Int)}::R)/\Stp lb (fun k=>k=pb) w v w' v:=by
 obtain⟨aov,kv,cv,hv⟩:=row_slice hP.O;subst hv;have hkv:kv=(A++x::R).length:=by
  rcases hP.O.2 with⟨e,e2⟩|⟨g,cap,cur,e,_⟩
  ·have:=(Value.slice.inj e).2.1;omega
  ·exact(Value.slice.inj e).2.1
 have HP:Hid (LP w lb (.slice aov kv cv) (A++x::R)):=hP;have HL:Hid (Lab w lb xb jb pb fb (.slice (some ⟨jr,0,none⟩) 1 jc) pl):=hL;have HO:Hid (Off lb (.slice aov kv cv) xb jb pb fb):=ho;have x0:w.cell? ⟨xb,0,none⟩=some (.pointer (some ⟨lb,0,none⟩)):=hL.X.2 0 (by simp);have p0:w.cell? ⟨pb,0,none⟩=some (.int .i64 pl):=hL.P.2 0 (by simp);have b0:w.cell? ⟨fb,0,none⟩=some (.func (.func 50) #[] #[.pointer (some ⟨jb,0,none⟩),.pointer (some ⟨pb,0,none⟩),.pointer (some ⟨xb,0,none⟩)]):=hL.B.2 0 (by simp);have l0:=hP.C;have z1:=hL.X.1;have z2:=hL.P.1;have z3:=hL.B.1;have z4:=hP.lt;have pf:=hL.PF;have npf:fb≠pb:=hL.n6.symm;obtain⟨u,hu,LU,PU,SU,JU⟩:∃y,w.setCell ⟨pb,0,none⟩ (.int .i64 (kv:Int))=y/\Hid (Lab y lb xb jb pb fb (.slice (some ⟨jr,0,none⟩) 1 jc) (kv:Int))/\Hid (LP y lb (.slice aov kv cv) (A++x::R))/\Hid (Stp lb (fun k=>k=pb) w (.slice aov kv cv) y (.slice aov kv cv))/\Hid (Cl y jr [.int .i64 (k:Int)]):=by
  have far:∀{b o:Nat},b≠pb->(w.setCell ⟨pb,0,none⟩ (.int .i64 (kv:Int))).cell? ⟨b,o,none⟩=w.cell? ⟨b,o,none⟩:=fun h=>World.cell?_setCell_far _ _ _ _ (show pb≠_ from fun e=>h e.symm)
  have cl:∀{b:Nat}{vs:List Value},b≠pb->Cl w b vs->Cl (w.setCell ⟨pb,0,none⟩ (.int .i64 (kv:Int))) b vs:=fun h c=>⟨by simpa using c.1,fun i hi=>(far h).trans (c.2 i hi)⟩
  refine⟨_,rfl,⟨cl hL.n2 hL.X,cl hL.n4 hL.J,⟨by simpa using hL.P.1,fun i hi=>?_⟩,cl hL.n6.symm hL.B,fun i=>by simpa using hL.JF i,fun i=>by simpa using hL.PF i,hL.n1,hL.n2,hL.n3,hL.n4,hL.n5,hL.n6⟩,⟨(far (fun e=>ho.1.2.2.1 e.symm)).trans hP.C,by simpa using hP.lt,fun i=>by simpa using hP.F i,ownsRow_setCell_other hP.O ho.2.2.2.1 _⟩,⟨(Lx.refl _ _).set (.inr (.inr rfl)) _,.inl rfl⟩,cl hjp hj⟩;match i,hi with
  |0,_=>simp[go_sem,p0]
 have HKV:Hid (kv=(A++x::R).length):=hkv;have HU:Hid (w.setCell ⟨pb,0,none⟩ (.int .i64 (kv:Int))=u):=hu;have HK:Hid (A.length=k):=hk;clear hL hP ho hkv hu hj hk;go_enter Try.func52,Try.ntmps52;go_wp2_with fail;rw[HU.out];refine(fill1_any lb xb jb pb fb jr jc k (kv:Int) (.slice aov kv cv) A R x u LU.out JU.out HK.out PU.out).mono ?_;rintro e u'⟨rfl,hP',hS'⟩;have P':Hid (LP u' lb (.slice aov kv cv) (A++{x with imm:=(kv:Int)}::R)):=hP';have S':Hid (Stp lb (fun k=>k=pb) w (.slice aov kv cv) u' (.slice aov kv cv)):=SU.out.trans hS' (fun _ _ h=>h.elim);clear hP' hS';go_wp2;go_end0;refine⟨rfl,?_,S'.out⟩;have h:=P'.out;rw[HKV.out]at h⊢;exact h
theorem info_int:(Try.prog.info? 3).map (fun i=>(i.zero,i.size,i.bytes))=some (some (.int .i64 0),1,8):=by kernel_rfl
theorem labJump_any(lb xb jb pb fb:Nat)(pl op:Int)(v:Value)(xs:List NV)(w:World)(hL:Lab w lb xb jb pb fb (.slice none 0 0) pl)(hP:LP w lb v xs)(hn:xs.length<=4000)(ho:Off lb v xb jb pb fb):
 Calls Try.prog 51 #[.int .i64 op,.pointer (some ⟨jb,0,none⟩),.pointer (some ⟨xb,0,none⟩),.pointer (some ⟨fb,0,none⟩)] w fun e w'=>e=.returned (.tuple #[])/\∃v' jr jc,LP w' lb v' (xs++[jmpV op pl])/\Lab w' lb xb jb pb fb (.slice (some ⟨jr,0,none⟩) 1 jc) pl/\Cl w' jr [.int .i64 (xs.length:Int)]/\w.heap.size<=jr/\v'.ownBlock≠some jr/\Off lb v' xb jb pb fb/\Stp lb (fun k=>k=jb) w v w' v':=by
 obtain⟨aov,kv,cv,hv⟩:=row_slice hP.O
 subst hv
 have hkv:kv=xs.length:=by
  rcases hP.O.2 with⟨e,e2⟩|⟨g,cap,cur,e,_⟩
  ·have:=(Value.slice.inj e).2.1;omega
  ·exact(Value.slice.inj e).2.1
 have HP:Hid (LP w lb (.slice aov kv cv) xs):=hP
 have HL:Hid (Lab w lb xb jb pb fb (.slice none 0 0) pl):=hL
 have HO:Hid (Off lb (.slice aov kv cv) xb jb pb fb):=ho
 have HKV:Hid (kv=xs.length):=hkv
 have kb:kv<=4000:=by omega
 have rj:∀w',Below w.heap.size w w'->w'.cell? ⟨jb,0,none⟩=some (.slice none 0 0):=fun w' h=>(HL.out.J.below h).2 0 (by simp)
 have rx:∀w',Below w.heap.size w w'->w'.cell? ⟨xb,0,none⟩=some (.pointer (some ⟨lb,0,none⟩)):=fun w' h=>(HL.out.X.below h).2 0 (by simp)
 have rl:∀w',Below w.heap.size w w'->w'.cell? ⟨lb,0,none⟩=some (.slice aov kv cv):=fun w' h=>(h.cell (p:=⟨lb,0,none⟩) HP.out.lt).trans HP.out.C
 have zj:=hL.J.1
 have zl:=hP.lt
 clear hL hP ho hkv hn
 obtain⟨iS,gS,gS0,gS1,gS2⟩:=info_parts info_int
 have HIS:Hid (_/\_/\_/\_):=⟨gS,gS0,gS1,gS2⟩
 clear gS gS0 gS1 gS2
 go_enter Try.func51,Try.ntmps51
 go_upto_region 0 with fail
 refine wp_region_L (T:=fun w'=>Below w.heap.size w w') (s:=8) (by kernel_rfl) (Below.refl _ _).drew (fun hHeld=>?_)
 generalize w.drew=t0 at hHeld⊢
 refine wpAnyL_tk 0 ?k9v rfl ?k9y ?k9r
 case k9y=>(intro w hSw;(try dsimp only at hSw);go_simp;try with_reducible rfl)
 try simp only[Act.put,List.getElem_toArray,List.getElem_cons_zero,List.setIfInBounds_toArray,List.set_cons_zero,List.set_cons_succ]
 refine wpAnyL_tk 1 ?k10v rfl ?k10y ?k10r
 case k10y=>(intro w hSw;(try dsimp only at hSw);go_simp;try with_reducible rfl)
 try simp only[Act.put,List.getElem_toArray,List.getElem_cons_zero,List.getElem_cons_succ,List.setIfInBounds_toArray,List.set_cons_zero,List.set_cons_succ]
 refine wpAnyL_tk 2 ?k11v rfl ?k11y ?k11r
 case k11y=>(intro w hSw;(try dsimp only at hSw);go_simp;try with_reducible rfl)
 try simp only[Act.put,List.getElem_toArray,List.getElem_cons_zero,List.getElem_cons_succ,List.setIfInBounds_toArray,List.set_cons_zero,List.set_cons_succ]
 refine wpAnyL_tk 3 ?k12v rfl ?k12y ?k12r
 case k12y=>(intro w hSw;(try dsimp only at hSw);go_simp;try with_reducible rfl)
 try simp only[Act.put,List.getElem_toArray,List.getElem_cons_zero,List.getElem_cons_succ,List.setIfInBounds_toArray,List.set_cons_zero,List.set_cons_succ]
 refine wpAnyL_tk 4 ?k13v rfl ?k13y ?k13r
 case k13y=>(intro w hSw;(try dsimp only at hSw);go_simp;try with_reducible rfl)
 try simp only[Act.put,List.getElem_toArray,List.getElem_cons_zero,List.getElem_cons_succ,List.setIfInBounds_toArray,List.set_cons_zero,List.set_cons_succ]
 refine wpAnyL_tk 5 ?k14v rfl ?k14y ?k14r
 case k14y=>(intro w hSw;(try dsimp only at hSw);go_simp;try with_reducible rfl)
 try simp only[Act.put,List.getElem_toArray,List.getElem_cons_zero,List.getElem_cons_succ,List.setIfInBounds_toArray,List.set_cons_zero,List.set_cons_succ]
 refine wpAnyL_call (i:=6) rfl (by kernel_rfl) (fun KK hK=>?_)
 go_simp
 obtain⟨t1,ht1,hbA,hnw⟩:∃y,t0.alloc (.cells #[.int .i64 (kv:Int)] 3)=y/\Below t0.heap.size t0 y/\(∀j u,([.int .i64 (kv:Int)]:List Value)[j]?=some u->y.cell? ((⟨t0.heap.size,0,none⟩:Addr).add j)=some u):=⟨_,rfl,(Below.refl _ _).alloc (Nat.le_refl _) _,cells_new6 _ _ _⟩
 rw[ht1]
 have TE:Below w.heap.size w t1:=hHeld.trans (hbA.mono hHeld.size)
 have NW:Hid _:=hnw
 clear ht1 hbA hnw
 refine hK.out _ _ TE (fun hHeld1=>?_)
 clear hK KK
 try simp only[Act.put,List.getElem_toArray,List.getElem_cons_zero,List.getElem_cons_succ,List.setIfInBounds_toArray,List.set_cons_zero,List.set_cons_succ]
 have zt:=TE.size
 obtain⟨v',w5,hrun,hown,hgrow,hnil,_⟩:=run_append_own_at (P:=Try.prog) t1 w.heap.size 119 119 3 iS _ 1 8 Try.underlying119 HIS.out.1 HIS.out.2.1 HIS.out.2.2.1 HIS.out.2.2.2 rfl (by decide) (.slice none 0 0) 0 [] (World.ownsRow_nil _ _ _ _) ⟨t0.heap.size,0,none⟩ 1 1 [.int .i64 (kv:Int)] rfl NW.out (by intro u hu;simp at hu;subst hu;rfl) (by unfold maxLen;omega) (by omega) zt
 have T5:Below w.heap.size w w5:=TE.grown hgrow zt (by intro k hk;cases hk)
 refine wpAnyL_append (.tmp 5) (.tmp 11) (i:=7) rfl (by kernel_rfl) (by kernel_rfl) rfl rfl rfl hrun T5 (fun hHeld5=>?_)
 try simp only[Act.put,List.getElem_toArray,List.getElem_cons_zero,List.getElem_cons_succ,List.setIfInBounds_toArray,List.set_cons_zero,List.set_cons_succ]
 rw[Nat.zero_add,List.nil_append]at hown
 obtain⟨jr,jc,hv'⟩:=row_some2 hown (by omega)
 subst hv'
 have JR:w.heap.size<=jr:=(hown.lt jr rfl).1
 have J5:Cl w5 jr [.int .i64 (kv:Int)]:=⟨(hown.lt jr rfl).2,fun i hi=>by
  match i,hi with
  |0,_=>exact hown.cellAt 0 (by omega)⟩
 obtain⟨u,hu,LU,PU,SU,JU,OU⟩:∃y,w5.setCell ⟨jb,0,none⟩ (.slice (some ⟨jr,0,none⟩) 1 jc)=y/\Hid (Lab y lb xb jb pb fb (.slice (some ⟨jr,0,none⟩) 1 jc) pl)/\Hid (LP y lb (.slice aov kv cv) xs)/\Hid (Stp lb (fun k=>k=jb) w (.slice aov kv cv) y (.slice aov kv cv))/\Hid (Cl y jr [.int .i64 (kv:Int)])/\Hid (jr<y.heap.size):=by
  have far:∀{b o:Nat},b≠jb->(w5.setCell ⟨jb,0,none⟩ (.slice (some ⟨jr,0,none⟩) 1 jc)).cell? ⟨b,o,none⟩=w5.cell? ⟨b,o,none⟩:=fun h=>World.cell?_setCell_far _ _ _ _ (show jb≠_ from fun e=>h e.symm)
  have cl:∀{b:Nat}{vs:List Value},b≠jb->Cl w5 b vs->Cl (w5.setCell ⟨jb,0,none⟩ (.slice (some ⟨jr,0,none⟩) 1 jc)) b vs:=fun h c=>⟨by simpa using c.1,fun i hi=>(far h).trans (c.2 i hi)⟩
  have j0:=rj w5 T5
  refine⟨_,rfl,⟨cl HL.out.n1 (HL.out.X.below T5),⟨by simpa using(HL.out.J.below T5).1,fun i hi=>?_⟩,cl HL.out.n4.symm (HL.out.P.below T5),cl HL.out.n5.symm (HL.out.B.below T5),fun i=>by simpa using(T5.frozen (p:=⟨jb,i,none⟩) HL.out.J.1).trans (HL.out.JF i),fun i=>by simpa using(T5.frozen (p:=⟨pb,i,none⟩) HL.out.P.1).trans (HL.out.PF i),HL.out.n1,HL.out.n2,HL.out.n3,HL.out.n4,HL.out.n5,HL.out.n6⟩,⟨(far (fun e=>HO.out.1.2.1 e.symm)).trans (rl w5 T5),by simpa using(Nat.lt_of_lt_of_le zl T5.size),fun i=>by simpa using(T5.frozen (p:=⟨lb,i,none⟩) zl).trans (HP.out.F i),ownsRow_setCell_other (row_belowU HP.out.O T5) HO.out.2.2.1 _⟩,⟨(Lx.of_below T5).set (.inr (.inr rfl)) _,.inl rfl⟩,cl (by omega) J5,Nat.lt_of_lt_of_le J5.1 (by simp)⟩
  match i,hi with
  |0,_=>simp[go_sem,j0]
 have j5:=rj w5 T5
 have jf5:∀i,w5.frozen? ⟨jb,i,none⟩=false:=fun i=>(T5.frozen (p:=⟨jb,i,none⟩) HL.out.J.1).trans (HL.out.JF i)
 have jl5:jb<w5.heap.size:=Nat.lt_of_lt_of_le zj T5.size
 have HU:Hid (w5.setCell ⟨jb,0,none⟩ (.slice (some ⟨jr,0,none⟩) 1 jc)=u):=hu
 clear hown hgrow hnil hrun hHeld hHeld1 hHeld5 TE T5 J5 NW hu rj rx rl
 refine wpAnyL_store rfl (by kernel_rfl) (by kernel_rfl) (fun KK hK=>?_)
 go_simp
 refine hK.out _ _ ?_
 clear hK KK j5 jf5 jl5
 rw[HU.out]
 clear HU
 have ux:u.cell? ⟨xb,0,none⟩=some (.pointer (some ⟨lb,0,none⟩)):=LU.out.X.2 0 (by simp)
 have uxl:=LU.out.X.1
 go_wp2_with fail
 refine(add_any lb (.slice aov kv cv) xs (jmpV op 0) u PU.out (by have:=HKV.out;omega)).mono ?_
 rintro e u2⟨rfl,v2,hP2,hS2⟩
 have P2:Hid (LP u2 lb v2 (xs++[jmpV op 0])):=hP2
 have S2:Hid (Stp lb (fun k=>k=jb) w (.slice aov kv cv) u2 v2):=SU.out.trans hS2 (fun _ _ h=>h.elim)
 obtain⟨hl2,ho2⟩:=LU.out.step HO.out hS2 (fun h=>h) (fun h=>h) (fun h=>h) (fun h=>h)
 have L2:Hid (Lab u2 lb xb jb pb fb (.slice (some ⟨jr,0,none⟩) 1 jc) pl):=hl2
 have NJ:(Value.slice aov kv cv).ownBlock≠some jr:=fun e=>by have:=(HP.out.O.lt _ e).2;omega
 have J2:Hid (Cl u2 jr [.int .i64 (kv:Int)]):=hS2.cl JU.out (by omega) NJ (fun h=>h)
 have N2:Hid (v2.ownBlock≠some jr):=hS2.nb OU.out NJ
 have O2:Hid (Off lb v2 xb jb pb fb):=ho2
 clear hP2 hS2 hl2 ho2 ux uxl SU LU PU JU
 have b0:u2.cell? ⟨fb,0,none⟩=some (.func (.func 50) #[] #[.pointer (some ⟨jb,0,none⟩),.pointer (some ⟨pb,0,none⟩),.pointer (some ⟨xb,0,none⟩)]):=L2.out.B.2 0 (by simp)
 have bl:=L2.out.B.1
 go_wp2_with fail
 refine(fill1_any lb xb jb pb fb jr jc kv pl v2 xs [] (jmpV op 0) u2 L2.out J2.out HKV.out.symm P2.out).mono ?_
 rintro e u3⟨rfl,hP3,hS3⟩
 have P3:Hid (LP u3 lb v2 (xs++[jmpV op pl])):=hP3
 have S3:Hid (Stp lb (fun k=>k=jb) w (.slice aov kv cv) u3 v2):=S2.out.trans hS3 (fun _ _ h=>h.elim)
 obtain⟨hl3,ho3⟩:=L2.out.step O2.out hS3 (fun h=>h) (fun h=>h) (fun h=>h) (fun h=>h)
 have L3:Hid (Lab u3 lb xb jb pb fb (.slice (some ⟨jr,0,none⟩) 1 jc) pl):=hl3
 have J3:Hid (Cl u3 jr [.int .i64 (kv:Int)]):=hS3.cl J2.out (by omega) N2.out (fun h=>h)
 have O3:Hid (Off lb v2 xb jb pb fb):=ho3
 clear hP3 hS3 hl3 ho3 b0 bl
 go_wp2
 go_end0
 exact⟨rfl,v2,jr,jc,P3.out,L3.out,by rw[<-HKV.out];exact J3.out,JR,N2.out,O3.out,S3.out⟩
end Go.Proofs.Ytplnpgohdgialaa
