import Derived.Test.YtbahofiiaodpdaaGreatOfTransRef2
import Derived.Test.YtbahofiiaodpdaaGreatOfAppOwn
import Derived.Test.YtbahofiiaodpdaaGreatOfTransResA
set_option maxHeartbeats 8000000
set_option maxRecDepth 20000
namespace Go.Proofs.YtbahofiiaodpdaaGreat
open Go.RowKit
theorem info_cVl:(Tryz.prog.info? 62).map (fun i=>(i.zero,i.size,i.bytes))=some (some (.agg #[.int .i64 0,.bool false,.int .i64 0,.int .i64 0,.int .i64 0,.int .i64 0]),6,48):=by kernel_rfl
theorem copyV_at(b off n cap:Nat)(f:Nat->Value)(w:World)(hn:n<=1048576)(hat:At w b off (n*6) f)(h1:∀i,(f i).oneCell'=true):
 Calls Tryz.prog 70 #[.slice (some ⟨b,off,none⟩) n cap] w fun e w'=>∃v',e=.returned v'/\w'.ownsRow w.heap.size 62 6 v' n (first (n*6) f)/\Below w.heap.size w w'/\(v'=.slice none 0 0↔n=0):=by
 obtain⟨i0,hi,hz0,hz1,hz2⟩:=info_parts info_cVl;have HA:Hid (At w b off (n*6) f):=hat;have H1:Hid (∀i,(f i).oneCell'=true):=h1;clear hat h1;go_enter Tryz.func70,Tryz.ntmps70;go_wp2_with(first|(at_builtin;refine wpList_append_own _ rfl _ _ 24 rfl w.heap.size 62 i0 (.agg #[.int .i64 0,.bool false,.int .i64 0,.int .i64 0,.int .i64 0,.int .i64 0]) 6 48 Tryz.underlying24 hi hz0 hz1 hz2 rfl (by decide) _ 0 [] rfl (World.ownsRow_nil _ _ _ _) ⟨b,off,none⟩ n cap (first (n*6) f) rfl (first_length _ _) ?c1 ?c2 ?c3 ?c4 ?c5 ?_)|go_in)
 case c1=>
  intro j u hj;obtain⟨hm,rfl⟩:=first_get hj;rw[Addr.add_lit];exact HA.out.cell hm
 case c2=>
  intro u hu;obtain⟨j,_,rfl⟩:=first_mem hu;exact H1.out j
 case c3=>unfold maxLen;omega
 case c4=>omega
 case c5=>exact Nat.le_refl _
 ·intro v' w1 hown hgrow hnil
  have hown':w1.ownsRow w.heap.size 62 6 v' n (first (n*6) f):=by simpa using hown
  have hnil':v'=.slice none 0 0↔n=0:=by simpa using hnil
  have HB:Hid (Below w.heap.size w w1):=(Below.refl _ _).grown hgrow (Nat.le_refl _) (by intro k hk;cases hk);have HO:Hid (w1.ownsRow w.heap.size 62 6 v' n (first (n*6) f)):=hown';have HN:Hid (v'=.slice none 0 0↔n=0):=hnil';clear hown hown' hgrow hnil hnil' hi hz0 hz1 hz2;go_wp2;go_ret;exact⟨v',rfl,HO.out,HB.out,HN.out⟩
theorem vF_one(V:Nat->VV)(i:Nat):(vF V i).oneCell'=true:=by
 unfold vF;have:i%6<6:=Nat.mod_lt _ (by decide);generalize i%6=q at this⊢;match q,this with
 |0,_=>rfl
 |1,_=>rfl
 |2,_=>rfl
 |3,_=>rfl
 |4,_=>rfl
 |5,_=>rfl
theorem fF_one(V:Nat->VV)(z c:Int)(i:Nat):(fF V z c i).oneCell'=true:=by
 unfold fF;split
 ·exact vF_one V i
 ·split<;>rfl
theorem facA_one(V:Nat->VV)(z c:Int):(facA V z c).all (·.oneCell')=true:=
 all_oneCell_toArray (fun v hv=>by obtain⟨j,_,rfl⟩:=first_mem hv;exact fF_one V z c j)
theorem facA_size(V:Nat->VV)(z c:Int):(facA V z c).size=50:=by simp[facA,first_length]
theorem Arr.there{w:World}{b n:Nat}{f:Nat->Value}(h:Arr w b n f):w.there b 0 n:=fun j hj=>by
 rw[Nat.zero_add];exact⟨by rw[h.cell hj];rfl,h.free j⟩
theorem Arr.put{w:World}{b n:Nat}{f:Nat->Value}(h:Arr w b n f)(g:Nat->Value):Arr (w.setCells b 0 (first n g)) b n g:=by
 refine(h.setCells 0 (first n g) (by simp[first_length])).congr (fun i hi=>?_);simp[first,hi]
theorem row48_info:(Tryz.prog.info? 68).map (·.size)=some 48:=by kernel_rfl
theorem regs_load{u:World}{b:Nat}{V:Nat->VV}(h:Arr u b (8*6) (vF V)):(Instr.loadAt 68 (.pointer (some ⟨b,0,none⟩))).run Tryz.prog u=.ok (.agg (first 48 (vF V)).toArray) u:=
 run_loadAt_mid u b 0 _ (first 48 (vF V)) _ (fun j v hv=>by obtain⟨hm,rfl⟩:=first_get hv;rw[Nat.zero_add];exact h.cell hm) Tryz.underlying68 rfl (by rw[first_length];exact row48_info)
theorem facts_build(V:Nat->VV)(z c:Int)(w:World):(Instr.build 70 #[(0,.agg (first 48 (vF V)).toArray),(1,.int .i64 z),(2,.int .i64 c)]).run Tryz.prog w=.ok (.agg (facA V z c)) w:=by kernel_rfl
theorem arr_ptr(b c:Nat)(w:World):(Instr.arrayAt 68 (.slice (some ⟨b,0,none⟩) 8 c)).run Tryz.prog w=.ok (.pointer (some ⟨b,0,none⟩)) w:=by kernel_rfl
theorem exec_build{P:Program}{a:Act}{op:Oper}{w:World}(ty:TypeId)(parts:Array (Nat×Operand))(ho:op.op=.build ty parts){vs:Array (Nat×Value)}(hvs:(parts.map fun(i,x)=>(i,a.eval x))=vs){v:Value}(hb:(Instr.build ty vs).run P w=.ok v w):(execOp a.eval op).run P w=.ok (.value v) w:=by
 subst hvs;unfold execOp;simp only[ho,Sem.run_bind,hb,Result.andThen_ok,Sem.run_pure]
theorem zero_fac:(#[.int .i64 0,.bool false,.int .i64 0,.int .i64 0,.int .i64 0,.int .i64 0,.int .i64 0,.bool false,.int .i64 0,.int .i64 0,.int .i64 0,.int .i64 0,.int .i64 0,.bool false,.int .i64 0,.int .i64 0,.int .i64 0,.int .i64 0,.int .i64 0,.bool false,.int .i64 0,.int .i64 0,.int .i64 0,.int .i64 0,.int .i64 0,.bool false,.int .i64 0,.int .i64 0,.int .i64 0,.int .i64 0,.int .i64 0,.bool false,.int .i64 0,.int .i64 0,.int .i64 0,.int .i64 0,.int .i64 0,.bool false,.int .i64 0,.int .i64 0,.int .i64 0,.int .i64 0,.int .i64 0,.bool false,.int .i64 0,.int .i64 0,.int .i64 0,.int .i64 0,.int .i64 0,.int .i64 0]:Array Value)=facA (fun _=>zV) 0 0:=by kernel_rfl
theorem if_in{c:Prop} [Decidable c]{P Q:Prop}(h:c)(p:P):if c then P else Q:=by rw[if_pos h];exact p
theorem results_cell1{P:Program}{fn:Func}{p:Tmp}{ty:TypeId}(h:fn.results=#[.cell p ty])(tmps:Array Value)(w:World)(b:Nat)(v:Value)(hp:tmps.getD p undef=.pointer (some ⟨b,0,none⟩))(hl:(loadVar ty ⟨b,0,none⟩).run P w=.ok v w):(results fn tmps).run P w=.ok v w:=by
 have hp':tmps[p]?.getD undef=.pointer (some ⟨b,0,none⟩):=by simpa using hp
 simp[results,h,hp',asAddr,hl]
theorem facts_var{u:World}{b:Nat}{V:Nat->VV}{z c:Int}(h:Arr u b 50 (fF V z c)):(loadVar 70 ⟨b,0,none⟩).run Tryz.prog u=.ok (.agg (facA V z c)) u:=
 run_loadVar_mid u b 0 _ (first 50 (fF V z c)) _ (fun j v hv=>by obtain⟨hm,rfl⟩:=first_get hv;rw[Nat.zero_add];exact h.cell hm) Tryz.underlying70 rfl (by rw[first_length];exact facts_info)
theorem wpL_store_facts{op:Oper}{a:Act}{w:World}{K:Act->World->Prop}{Q:Exit->Act->World->Prop}(x y:Operand)(ho:op.op=.store 70 x y)(b:Nat)(V V0:Nat->VV)(z c z0 c0:Int)(hx:a.eval x=.pointer (some ⟨b,0,none⟩))(FA:Array Value)(hF:FA=facA V z c)(hy:a.eval y=.agg FA)(ht:Arr w b 50 (fF V0 z0 c0))
 (h:∀w',Arr w' b 50 (fF V z c)->Below b w w'->(w'=w.setCells b 0 (first 50 (fF V z c)))->K (a.put op.dst undef) w'):op.wp Tryz.prog a w K Q:=by
 subst hF;exact wp_store_mid 70 x y ho b 0 (facA V z c) hx hy (by rw[facA_size];exact ht.there) (by rw[facA_size];exact facts_info) (facA_one V z c) (h _ (ht.put _) (below_setCells (Nat.le_refl _) _ _ (Below.refl _ _)) rfl)
theorem factsOf_any(b cap:Nat)(V:Nat->VV)(z c:Int)(w:World)(h:Arr w b (8*6) (vF V)):
 Calls Tryz.prog 32 #[.agg #[.slice (some ⟨b,0,none⟩) 8 cap,.int .i64 z,.int .i64 c]] w fun e w'=>e=.returned (.agg (facA V z c))/\Below w.heap.size w w':=by
 have HA:Hid (Arr w b (8*6) (vF V)):=h;clear h;obtain⟨FA,hFA⟩:∃x,facA V z c=x:=⟨_,rfl⟩
 obtain⟨Z0,hZ0⟩:∃x,facA (fun _=>zV) 0 0=x:=⟨_,rfl⟩
 obtain⟨XA,hXA⟩:∃x,(first 48 (vF V)).toArray=x:=⟨_,rfl⟩
 have HF:Hid (facA V z c=FA):=hFA;have HXA:Hid ((first 48 (vF V)).toArray=XA):=hXA;rw[hFA];clear hFA hXA;go_enter Tryz.func32,Tryz.ntmps32;go_upto_region 1 with fail;rw[zero_fac,hZ0];obtain⟨u,hu,hbu,cu,ru⟩:∃v,(w.alloc (.cells #[.slice (some ⟨b,0,none⟩) 8 cap,.int .i64 z,.int .i64 c] 28)).alloc (.cells Z0 70)=v/\Below w.heap.size w v/\Cl v w.heap.size [.slice (some ⟨b,0,none⟩) 8 cap,.int .i64 z,.int .i64 c]/\Arr v (w.heap.size+1) 50 (fF (fun _=>zV) 0 0):=by
  subst hZ0;refine⟨_,rfl,((Below.refl _ _).alloc (Nat.le_refl _) _).alloc (by simp) _,(Cl.new).below ((Below.refl _ _).alloc (Nat.le_refl _) _),?_⟩;have h:=Arr.newFirst (w.alloc (.cells #[.slice (some ⟨b,0,none⟩) 8 cap,.int .i64 z,.int .i64 c] 28)) 50 (fF (fun _=>zV) 0 0) 70;simp only[World.size_alloc]at h;exact h
 rw[hu];clear hu hZ0;have HB:Hid (Below w.heap.size w u):=hbu;have HU:Hid (Arr u (w.heap.size+1) 50 (fF (fun _=>zV) 0 0)):=ru;have HX:Hid (Arr u b (8*6) (vF V)):=HA.out.below hbu HA.out.lt;have s0:∀w',Below u.heap.size u w'->w'.cell? ⟨w.heap.size,0,none⟩=some (.slice (some ⟨b,0,none⟩) 8 cap):=fun w' h=>(cu.below h).2 0 (by simp)
 have s1:∀w',Below u.heap.size u w'->w'.cell? ⟨w.heap.size,1,none⟩=some (.int .i64 z):=fun w' h=>(cu.below h).2 1 (by simp)
 have s2:∀w',Below u.heap.size u w'->w'.cell? ⟨w.heap.size,2,none⟩=some (.int .i64 c):=fun w' h=>(cu.below h).2 2 (by simp)
 have ap:∀w',(Instr.arrayAt 68 (.slice (some ⟨b,0,none⟩) 8 cap)).run Tryz.prog w'=.ok (.pointer (some ⟨b,0,none⟩)) w':=arr_ptr b cap;clear hbu cu ru;refine wp_region_L (T:=fun w'=>Below u.heap.size u w') (s:=9) (by kernel_rfl) (Below.refl _ _).drew (fun hHeld=>?_);refine wpAnyL_ta 0 rfl ?_
 refine wpAnyL_ta 1 rfl ?_
 refine wpAnyL_ta 2 rfl ?_
 refine wpAnyL_tk 3 (.agg XA) rfl ?my ?mr
 case my=>exact fun w' h=>exec_load 68 (.tmp 5) rfl b 0 rfl (HXA.out▸regs_load (HX.out.below h HX.out.lt))
 try simp only[Act.put,List.getElem_toArray,List.getElem_cons_zero,List.getElem_cons_succ,List.setIfInBounds_toArray,List.set_cons_zero,List.set_cons_succ]
 refine wpAnyL_ta 4 rfl ?_
 refine wpAnyL_ta 5 rfl ?_
 refine wpAnyL_ta 6 rfl ?_
 refine wpAnyL_ta 7 rfl ?_
 refine wpAnyL_tk 8 (.agg FA) rfl ?ny ?nr
 case ny=>exact fun w' h=>exec_build (vs:=#[(0,.agg XA),(1,.int .i64 z),(2,.int .i64 c)]) 70 #[(0,.tmp 6),(1,.tmp 8),(2,.tmp 10)] rfl (by kernel_rfl) (HXA.out▸HF.out▸facts_build V z c w')
 try simp only[Act.put,List.getElem_toArray,List.getElem_cons_zero,List.getElem_cons_succ,List.setIfInBounds_toArray,List.set_cons_zero,List.set_cons_succ]
 refine wpAnyL_store rfl (by kernel_rfl) (by kernel_rfl) (fun KK hK=>?_)
 have hU:Arr u.drew (w.heap.size+1) 50 (fF (fun _=>zV) 0 0):=HU.out.below (Below.refl u.heap.size u).drew HU.out.lt
 refine if_in (by kernel_rfl) ?_
 refine wpL_store_facts (.tmp 2) (.tmp 11) rfl (w.heap.size+1) V (fun _=>zV) z c 0 0 rfl FA HF.out.symm rfl hU ?_
 intro w' hA hb _
 refine hK.out _ _ ?_
 clear hK KK s0 s1 s2 ap
 simp only[Act.put,List.getElem_toArray,List.getElem_cons_zero,List.getElem_cons_succ]
 have HW:Hid (Arr w' (w.heap.size+1) 50 (fF V z c)):=hA
 have HBW:Hid (Below w.heap.size w w'):=(HB.out.trans ((Below.refl _ _).drew.mono HB.out.size)).trans (hb.mono (by omega))
 clear hA hb hU
 go_wp2
 exact bodyPost_ret (v:=.agg FA) (results_cell1 rfl _ _ (w.heap.size+1) _ rfl (HF.out▸facts_var HW.out)) rfl ⟨rfl,HBW.out⟩
theorem info_cV:(Tryz.prog.info? 62).map (fun i=>(i.zero,i.size,i.bytes))=some (some (.agg #[.int .i64 0,.bool false,.int .i64 0,.int .i64 0,.int .i64 0,.int .i64 0]),6,48):=by kernel_rfl
theorem row_some'{w:World}{base e size n:Nat}{v:Value}{xs:List Value}(h:w.ownsRow base e size v n xs)(hn:0<n):∃g c,v=.slice (some ⟨g,0,none⟩) n c:=by
 rcases h.2 with⟨_,rfl⟩|⟨g,cap,cur,rfl,_⟩
 ·omega
 ·exact⟨_,_,rfl⟩
theorem row_arrA{w:World}{base e g n cap:Nat}{f:Nat->Value}(h:w.ownsRow base e 6 (.slice (some ⟨g,0,none⟩) n cap) n (first (n*6) f)):Arr w g (n*6) f:=
 ⟨(h.lt _ rfl).2,fun i=>h.frozenAt i,fun i hi=>by rw[h.cellAt i hi];simp[first,hi]⟩
theorem l4Abs_any(b cap:Nat)(V:Nat->VV)(z c:Int)(w:World)(h:Arr w b (8*6) (vF V)):
 Calls Tryz.prog 22 #[.agg #[.slice (some ⟨b,0,none⟩) 8 cap,.int .i64 z,.int .i64 c]] w fun e w'=>∃g cg,w.heap.size<=g/\e=.returned (.agg #[.slice (some ⟨g,0,none⟩) 8 cg,.int .i64 z,.int .i64 c])/\Below w.heap.size w w'/\Arr w' g (8*6) (vF V):=by
 have HA:Hid (Arr w b (8*6) (vF V)):=h;clear h;go_enter Tryz.func22,Tryz.ntmps22;go_upto_region 1 with fail;obtain⟨u,hu,hbu,cu,ru,rf⟩:∃v,(w.alloc (.cells #[.slice (some ⟨b,0,none⟩) 8 cap,.int .i64 z,.int .i64 c] 28)).alloc (.cells #[.slice none 0 0,.int .i64 0,.int .i64 0] 28)=v/\Below w.heap.size w v/\Cl v w.heap.size [.slice (some ⟨b,0,none⟩) 8 cap,.int .i64 z,.int .i64 c]/\Cl v (w.heap.size+1) [.slice none 0 0,.int .i64 0,.int .i64 0]/\(∀i,v.frozen? ⟨w.heap.size+1,i,none⟩=false):=by
  refine⟨_,rfl,((Below.refl _ _).alloc (Nat.le_refl _) _).alloc (by simp) _,(Cl.new).below ((Below.refl _ _).alloc (Nat.le_refl _) _),?_,fun i=>by simp[go_sem]⟩;have h:=Cl.new (w:=w.alloc (.cells #[.slice (some ⟨b,0,none⟩) 8 cap,.int .i64 z,.int .i64 c] 28)) (vs:=#[.slice none 0 0,.int .i64 0,.int .i64 0]) (t:=28);simp only[World.size_alloc]at h;exact h
 rw[hu];clear hu;obtain⟨iV,gV,gV0,gV1,gV2⟩:=info_parts info_cV;have HIV:Hid (_/\_/\_/\_):=⟨gV,gV0,gV1,gV2⟩
 clear gV gV0 gV1 gV2;have s0:∀w',Below u.heap.size u w'->w'.cell? ⟨w.heap.size,0,none⟩=some (.slice (some ⟨b,0,none⟩) 8 cap):=fun w' h=>(cu.below h).2 0 (by simp)
 have s1:∀w',Below u.heap.size u w'->w'.cell? ⟨w.heap.size,1,none⟩=some (.int .i64 z):=fun w' h=>(cu.below h).2 1 (by simp)
 have s2:∀w',Below u.heap.size u w'->w'.cell? ⟨w.heap.size,2,none⟩=some (.int .i64 c):=fun w' h=>(cu.below h).2 2 (by simp)
 have HBU:Hid (Below w.heap.size w u):=hbu;have HRU:Hid (Cl u (w.heap.size+1) [.slice none 0 0,.int .i64 0,.int .i64 0]):=ru;have HRF:Hid (∀i,u.frozen? ⟨w.heap.size+1,i,none⟩=false):=rf;have hzu:w.heap.size+1<u.heap.size:=ru.1;clear hbu cu ru rf;refine wp_region_L (T:=fun w'=>Below u.heap.size u w') (s:=9) (by kernel_rfl) (Below.refl _ _).drew (fun hHeld=>?_);refine wpAnyL_ta 1 rfl ?_;refine wpAnyL_ta 2 rfl ?_;refine wpAnyL_ta 4 rfl ?_;refine wpAnyL_ta 5 rfl ?_;refine wpAnyL_ta 6 rfl ?_;refine wpAnyL_ta 7 rfl ?_;refine wpAnyL_call (i:=0) rfl (by kernel_rfl) (fun KK hK=>?_);go_simp;generalize hw6:(u.alloc (.cells #[] 62)).drew=w6;have b6:Below u.heap.size u w6:=by rw[<-hw6];exact((Below.refl _ _).alloc (Nat.le_refl _) _).drew
 have E6:w6.ownsRow u.heap.size 62 6 (.slice (some ⟨u.heap.size,0,none⟩) 0 0) 0 []:=by rw[<-hw6];exact(World.ownsRow_lit u #[] 0 (Nat.le_refl _) (by unfold maxLen;omega) rfl).drew
 have HE6:Hid (w6.ownsRow u.heap.size 62 6 (.slice (some ⟨u.heap.size,0,none⟩) 0 0) 0 []):=E6;have HB6:Hid (Below u.heap.size u w6):=b6;clear hw6 E6;refine hK.out _ _ b6 (fun hHeld6=>?_);clear hK KK b6;try go_frame
 refine wpAnyL_call (i:=3) rfl (by kernel_rfl) (fun KK hK=>?_)
 refine step_append_own rfl (.tmp 3) (.tmp 5) 24 rfl u.heap.size 62 iV (.agg #[.int .i64 0,.bool false,.int .i64 0,.int .i64 0,.int .i64 0,.int .i64 0]) 6 48 Tryz.underlying24 HIV.out.1 HIV.out.2.1 HIV.out.2.2.1 HIV.out.2.2.2 rfl (by decide) (.slice (some ⟨u.heap.size,0,none⟩) 0 0) 0 [] rfl HE6.out ⟨b,0,none⟩ 8 cap (first (8*6) (vF V)) rfl (first_length _ _) ?d1 ?d2 (by unfold maxLen;omega) (by omega) HB6.out.size ?_
 case d1=>
  intro j x hj
  obtain⟨hm,rfl⟩:=first_get hj
  rw[Addr.add_lit,Nat.zero_add]
  exact(HB6.out.cell (p:=⟨b,j,none⟩) (Nat.lt_of_lt_of_le HA.out.lt HBU.out.size)).trans ((HBU.out.cell (p:=⟨b,j,none⟩) HA.out.lt).trans (HA.out.cell hm))
 case d2=>
  intro x hx
  obtain⟨j,hj,rfl⟩:=first_mem hx
  unfold vF
  have:j%6<6:=Nat.mod_lt _ (by decide)
  generalize j%6=q at this⊢
  match q,this with
  |0,_=>rfl
  |1,_=>rfl
  |2,_=>rfl
  |3,_=>rfl
  |4,_=>rfl
  |5,_=>rfl
 intro vD w9 hownD hgrowD
 have hD:w9.ownsRow u.heap.size 62 6 vD 8 (first (8*6) (vF V)):=by simpa using hownD
 obtain⟨gD,cD,hvD⟩:=row_some' hD (by omega)
 subst hvD
 have b9:Below u.heap.size u w9:=HB6.out.trans ((Below.refl _ _).grown hgrowD HB6.out.size (by intro k hk;simp[Value.ownBlock]at hk;omega))
 have hg9:u.heap.size<=gD:=(hD.lt _ rfl).1
 have HD9:Hid (Arr w9 gD (8*6) (vF V)):=row_arrA hD
 have HB9:Hid (Below u.heap.size u w9):=b9
 clear hownD hgrowD hD HE6 HB6
 refine hK.out _ _ b9 (fun hHeld9=>?_)
 clear hK KK
 try go_frame
 refine wpAnyL_ta 8 rfl ?_
 have r0:w9.cell? ⟨w.heap.size+1,0,none⟩=some (.slice none 0 0):=(HRU.out.below b9).2 0 (by simp)
 have r1:w9.cell? ⟨w.heap.size+1,1,none⟩=some (.int .i64 0):=(HRU.out.below b9).2 1 (by simp)
 have r2:w9.cell? ⟨w.heap.size+1,2,none⟩=some (.int .i64 0):=(HRU.out.below b9).2 2 (by simp)
 have rf:∀i,w9.frozen? ⟨w.heap.size+1,i,none⟩=false:=fun i=>(b9.frozen (p:=⟨w.heap.size+1,i,none⟩) hzu).trans (HRF.out i)
 have hz9:w.heap.size+1<w9.heap.size:=Nat.lt_of_lt_of_le hzu b9.size
 clear s0 s1 s2 b9
 refine wpAnyL_store rfl (by kernel_rfl) (by kernel_rfl) (fun KK hK=>?_)
 go_simp
 refine hK.out _ _ ?_
 clear hK KK
 have hne:gD≠w.heap.size+1:=by omega
 go_wp2
 refine bodyPost_ret (v:=.agg #[.slice (some ⟨gD,0,none⟩) 8 cD,.int .i64 z,.int .i64 c]) (by simp[results,Tryz.results22,go_sem, *]) rfl ⟨gD,cD,?_,rfl,?_,?_⟩
 ·have:=HBU.out.size;omega
 ·(iterate 3 refine Below.setCell ?_ (show w.heap.size<=w.heap.size+1 by omega) _)
  exact HBU.out.trans (HB9.out.mono HBU.out.size)
 ·exact((HD9.out.other (fun e=>hne e.symm) _).other (fun e=>hne e.symm) _).other (fun e=>hne e.symm) _
theorem fac_regs{u:World}{b:Nat}{V:Nat->VV}{z c:Int}(h:Arr u b 50 (fF V z c)):At u b 0 (8*6) (vF V):=by
 refine⟨h.lt,fun i hi=>?_⟩;rw[Nat.zero_add,h.cell (by omega)];simp only[fF];rw[if_pos (by omega)]
theorem absOf_any(V:Nat->VV)(z c:Int)(FA:Array Value)(hF:FA=facA V z c)(w:World):
 Calls Tryz.prog 34 #[.agg FA] w fun e w'=>∃g cg,w.heap.size<=g/\e=.returned (.agg #[.slice (some ⟨g,0,none⟩) 8 cg,.int .i64 z,.int .i64 c])/\Below w.heap.size w w'/\Arr w' g (8*6) (vF V):=by
 have HF:Hid (FA=facA V z c):=hF;clear hF;go_enter Tryz.func34,Tryz.ntmps34;go_upto_region 1 with fail;obtain⟨u,hu,hbu,fu,ru,rf⟩:∃v,(w.alloc (.cells FA 70)).alloc (.cells #[.slice none 0 0,.int .i64 0,.int .i64 0] 28)=v/\Below w.heap.size w v/\Arr v w.heap.size 50 (fF V z c)/\Cl v (w.heap.size+1) [.slice none 0 0,.int .i64 0,.int .i64 0]/\(∀i,v.frozen? ⟨w.heap.size+1,i,none⟩=false):=by
  rw[HF.out];refine⟨_,rfl,((Below.refl _ _).alloc (Nat.le_refl _) _).alloc (by simp) _,?_,?_,fun i=>by simp[go_sem]⟩
  ·exact(Arr.newFirst w 50 (fF V z c) 70).below ((Below.refl _ _).alloc (Nat.le_refl _) _) (by simp)
  ·have h:=Cl.new (w:=w.alloc (.cells (facA V z c) 70)) (vs:=#[.slice none 0 0,.int .i64 0,.int .i64 0]) (t:=28)
   simp only[World.size_alloc]at h;exact h
 rw[hu];clear hu;have s1:∀w',Below u.heap.size u w'->w'.cell? ⟨w.heap.size,48,none⟩=some (.int .i64 z):=fun w' h=>(fu.below h fu.lt).cell (i:=48) (by omega)
 have s2:∀w',Below u.heap.size u w'->w'.cell? ⟨w.heap.size,49,none⟩=some (.int .i64 c):=fun w' h=>(fu.below h fu.lt).cell (i:=49) (by omega)
 have HBU:Hid (Below w.heap.size w u):=hbu;have HFU:Hid (Arr u w.heap.size 50 (fF V z c)):=fu;have HRU:Hid (Cl u (w.heap.size+1) [.slice none 0 0,.int .i64 0,.int .i64 0]):=ru;have HRF:Hid (∀i,u.frozen? ⟨w.heap.size+1,i,none⟩=false):=rf;have hzu:w.heap.size+1<u.heap.size:=ru.1;clear hbu fu ru rf;refine wp_region_L (T:=fun w'=>Below u.heap.size u w') (s:=8) (by kernel_rfl) (Below.refl _ _).drew (fun hHeld=>?_);refine wpAnyL_ta 0 rfl ?_;refine wpAnyL_ta 1 rfl ?_;refine wpAnyL_ta 3 rfl ?_;refine wpAnyL_ta 4 rfl ?_;refine wpAnyL_ta 5 rfl ?_;refine wpAnyL_ta 6 rfl ?_;refine wpAnyL_call (i:=2) rfl (by kernel_rfl) (fun KK hK=>?_);go_simp;refine(copyV_at w.heap.size 0 8 8 (vF V) _ (by omega) (fac_regs (HFU.out.below (Below.refl u.heap.size u).drew HFU.out.lt)) (vF_one V)).mono ?_
 rintro e w9⟨v',rfl,hown,hb,_⟩
 obtain⟨gD,cD,hvD⟩:=row_some' hown (by omega)
 subst hvD
 have b9:Below u.heap.size u w9:=(Below.refl u.heap.size u).drew.trans hb
 have hg9:u.heap.size<=gD:=(hown.lt _ rfl).1
 have HO9:Hid (w9.ownsRow u.heap.size 62 6 (.slice (some ⟨gD,0,none⟩) 8 cD) 8 (first (8*6) (vF V))):=hown
 have HB9:Hid (Below u.heap.size u w9):=b9
 clear hown hb
 go_wp2_with fail
 refine hK.out _ _ b9 (fun hHeld9=>?_)
 clear hK KK
 try simp only[Act.put,List.getElem_toArray,List.getElem_cons_zero,List.getElem_cons_succ,List.setIfInBounds_toArray,List.set_cons_zero,List.set_cons_succ]
 refine wpAnyL_ta 7 rfl ?_
 have r0:w9.cell? ⟨w.heap.size+1,0,none⟩=some (.slice none 0 0):=(HRU.out.below b9).2 0 (by simp)
 have r1:w9.cell? ⟨w.heap.size+1,1,none⟩=some (.int .i64 0):=(HRU.out.below b9).2 1 (by simp)
 have r2:w9.cell? ⟨w.heap.size+1,2,none⟩=some (.int .i64 0):=(HRU.out.below b9).2 2 (by simp)
 have rf:∀i,w9.frozen? ⟨w.heap.size+1,i,none⟩=false:=fun i=>(b9.frozen (p:=⟨w.heap.size+1,i,none⟩) hzu).trans (HRF.out i)
 have hz9:w.heap.size+1<w9.heap.size:=Nat.lt_of_lt_of_le hzu b9.size
 clear s1 s2 b9
 refine wpAnyL_store rfl (by kernel_rfl) (by kernel_rfl) (fun KK hK=>?_)
 go_simp
 refine hK.out _ _ ?_
 clear hK KK
 have hne:gD≠w.heap.size+1:=by omega
 go_wp2
 refine bodyPost_ret (v:=.agg #[.slice (some ⟨gD,0,none⟩) 8 cD,.int .i64 z,.int .i64 c]) (by simp[results,Tryz.results34,go_sem, *]) rfl ⟨gD,cD,?_,rfl,?_,?_⟩
 ·have:=HBU.out.size;omega
 ·(iterate 3 refine Below.setCell ?_ (show w.heap.size<=w.heap.size+1 by omega) _)
  exact HBU.out.trans (HB9.out.mono HBU.out.size)
 ·exact(((row_arrA HO9.out).other (fun e=>hne e.symm) _).other (fun e=>hne e.symm) _).other (fun e=>hne e.symm) _
end Go.Proofs.YtbahofiiaodpdaaGreat
