import Derived.Test.YtplnpgohdgialaaRows
import Derived.Test.YtplnpgohdgialaaOfCl
import Derived.WalkKit
import Derived.WalkSpells
import Derived.WalkLawsBesides
import Derived.Test.YtplnpgohdgialaaOfTransAcc
set_option maxHeartbeats 8000000
set_option maxRecDepth 20000
namespace Go.Proofs.Ytplnpgohdgialaa
open Go.RowKit
def first(m:Nat)(f:Nat->Value):List Value:=(List.range m).map f
theorem first_length(m:Nat)(f:Nat->Value):(first m f).length=m:=by simp[first]
theorem first_get{m:Nat}{f:Nat->Value}{j:Nat}{u:Value}(h:(first m f)[j]?=some u):j<m/\u=f j:=by
 unfold first at h
 rw[List.getElem?_map]at h;by_cases hj:j<m
 ·rw[List.getElem?_range hj]at h
  exact⟨hj,by simpa using h.symm⟩
 ·rw[List.getElem?_eq_none (by simpa using Nat.le_of_not_lt hj)]at h
  cases h
theorem first_mem{m:Nat}{f:Nat->Value}{u:Value}(h:u∈first m f):∃j,j<m/\u=f j:=by
 unfold first at h
 simp only[List.mem_map,List.mem_range]at h;obtain⟨j,hj,rfl⟩:=h;exact⟨j,hj,rfl⟩
theorem step_append_own{P:Program}{ops:Array Oper}{o:Oper}{a:Act}{w:World}{K:Act->World->Prop}{Q:Exit->Act->World->Prop}{E:Prop}
 (hg:o.guard=none)(s x:Operand)(t:TypeId)(hop:o.op=Op.call {callee:=Callee.builtin Builtin.append,args:=#[s,x],argTypes:=#[t,t]})(base:Nat)
 (e:TypeId)(i:TypeInfo)(z:Value)(size bytes:Nat)(h1:P.underlying t=some (.slice e))(h2:P.info? e=some i)(h3:i.zero=some z)(h4:i.size=size)(h5:i.bytes=bytes)(h6:z.cells.size=size)(h7:0<size)
 (v:Value)(n:Nat)(olds:List Value)(hs:a.eval s=v)(hown:w.ownsRow base e size v n olds)
 (ad:Addr)(m c:Nat)(news:List Value)(hx:a.eval x=.slice (some ad) m c)(hn:news.length=m*size)(hc:∀j u,news[j]?=some u->w.cell? (ad.add j)=some u)(h1c:∀u∈news,u.oneCell'=true)
 (b1:n+m<=maxLen)(b2:(n+m)*bytes<=140737488355328)(hb:base<=w.heap.size)
 (hK:∀v' w',w'.ownsRow base e size v' (n+m) (olds++news)->w.grownBy w' v.ownBlock->K (a.put o.dst v') w'):
 if Region.wanted o (yielded ops a.tmps)=true then Oper.wp P o a w K Q else E:=by
 have hw:Region.wanted o (yielded ops a.tmps)=true:=by simp[Region.wanted,hg]
 rw[if_pos hw];obtain⟨v',w',hrun,r1,r2,_⟩:=run_append_own (P:=P) w base t o.type e i z size bytes h1 h2 h3 h4 h5 h6 h7 v n olds hown ad m c news hn hc h1c b1 b2 hb;unfold Oper.wp;simp[execOp,hop,resolve,invoke,builtin,hs,hx,hrun,Result.andThen];exact hK v' w' r1 r2
theorem info_cV:(Try.prog.info? 80).map (fun i=>(i.zero,i.size,i.bytes))=some (some (.agg #[.int .i64 0,.bool false,.int .i64 0,.int .i64 0,.int .i64 0,.int .i64 0]),6,48):=by kernel_rfl
theorem row_some'{w:World}{base e size n:Nat}{v:Value}{xs:List Value}(h:w.ownsRow base e size v n xs)(hn:0<n):∃g c,v=.slice (some ⟨g,0,none⟩) n c:=by
 rcases h.2 with⟨_,rfl⟩|⟨g,cap,cur,rfl,_⟩
 ·omega
 ·exact⟨_,_,rfl⟩
theorem row_arr{w:World}{base e g n cap:Nat}{f:Nat->Value}(h:w.ownsRow base e 6 (.slice (some ⟨g,0,none⟩) n cap) n (first (n*6) f)):Arr w g (n*6) f:=
 ⟨(h.lt _ rfl).2,fun i=>h.frozenAt i,fun i hi=>by rw[h.cellAt i hi];simp[first,hi]⟩
theorem l4Abs_any(b cap:Nat)(V:Nat->VV)(z c:Int)(w:World)(h:Arr w b (8*6) (vF V)):
 Calls Try.prog 56 #[.agg #[.slice (some ⟨b,0,none⟩) 8 cap,.int .i64 z,.int .i64 c]] w fun e w'=>∃g cg,w.heap.size<=g/\e=.returned (.agg #[.slice (some ⟨g,0,none⟩) 8 cg,.int .i64 z,.int .i64 c])/\Below w.heap.size w w'/\Arr w' g (8*6) (vF V):=by
 have HA:Hid (Arr w b (8*6) (vF V)):=h
 clear h
 go_enter Try.func56,Try.ntmps56
 go_upto_region 1 with fail
 obtain⟨u,hu,hbu,cu,ru,rf⟩:∃v,(w.alloc (.cells #[.slice (some ⟨b,0,none⟩) 8 cap,.int .i64 z,.int .i64 c] 106)).alloc (.cells #[.slice none 0 0,.int .i64 0,.int .i64 0] 106)=v/\Below w.heap.size w v/\Cl v w.heap.size [.slice (some ⟨b,0,none⟩) 8 cap,.int .i64 z,.int .i64 c]/\Cl v (w.heap.size+1) [.slice none 0 0,.int .i64 0,.int .i64 0]/\(∀i,v.frozen? ⟨w.heap.size+1,i,none⟩=false):=by
  refine⟨_,rfl,((Below.refl _ _).alloc (Nat.le_refl _) _).alloc (by simp) _,(Cl.new).below ((Below.refl _ _).alloc (Nat.le_refl _) _),?_,fun i=>by simp[go_sem]⟩
  have h:=Cl.new (w:=w.alloc (.cells #[.slice (some ⟨b,0,none⟩) 8 cap,.int .i64 z,.int .i64 c] 106)) (vs:=#[.slice none 0 0,.int .i64 0,.int .i64 0]) (t:=106)
  simp only[World.size_alloc]at h
  exact h
 rw[hu]
 clear hu
 obtain⟨iV,gV,gV0,gV1,gV2⟩:=info_parts info_cV
 have HIV:Hid (_/\_/\_/\_):=⟨gV,gV0,gV1,gV2⟩
 clear gV gV0 gV1 gV2
 have s0:∀w',Below u.heap.size u w'->w'.cell? ⟨w.heap.size,0,none⟩=some (.slice (some ⟨b,0,none⟩) 8 cap):=fun w' h=>(cu.below h).2 0 (by simp)
 have s1:∀w',Below u.heap.size u w'->w'.cell? ⟨w.heap.size,1,none⟩=some (.int .i64 z):=fun w' h=>(cu.below h).2 1 (by simp)
 have s2:∀w',Below u.heap.size u w'->w'.cell? ⟨w.heap.size,2,none⟩=some (.int .i64 c):=fun w' h=>(cu.below h).2 2 (by simp)
 have HBU:Hid (Below w.heap.size w u):=hbu
 have HRU:Hid (Cl u (w.heap.size+1) [.slice none 0 0,.int .i64 0,.int .i64 0]):=ru
 have HRF:Hid (∀i,u.frozen? ⟨w.heap.size+1,i,none⟩=false):=rf
 have hzu:w.heap.size+1<u.heap.size:=ru.1
 clear hbu cu ru rf
 refine wp_region_L (T:=fun w'=>Below u.heap.size u w') (s:=9) (by kernel_rfl) (Below.refl _ _).drew (fun hHeld=>?_)
 refine wpAnyL_tk 1 ?k1v rfl ?k1y ?k1r
 case k1y=>(intro w hSw;(try dsimp only at hSw);go_simp;try with_reducible rfl)
 try go_frame
 refine wpAnyL_tk 2 ?k2v rfl ?k2y ?k2r
 case k2y=>(intro w hSw;(try dsimp only at hSw);go_simp;try with_reducible rfl)
 try go_frame
 refine wpAnyL_tk 4 ?k3v rfl ?k3y ?k3r
 case k3y=>(intro w hSw;(try dsimp only at hSw);go_simp;try with_reducible rfl)
 try go_frame
 refine wpAnyL_tk 5 ?k4v rfl ?k4y ?k4r
 case k4y=>(intro w hSw;(try dsimp only at hSw);go_simp;try with_reducible rfl)
 try go_frame
 refine wpAnyL_tk 6 ?k5v rfl ?k5y ?k5r
 case k5y=>(intro w hSw;(try dsimp only at hSw);go_simp;try with_reducible rfl)
 try go_frame
 refine wpAnyL_tk 7 ?k6v rfl ?k6y ?k6r
 case k6y=>(intro w hSw;(try dsimp only at hSw);go_simp;try with_reducible rfl)
 try go_frame
 refine wpAnyL_call (i:=0) rfl (by kernel_rfl) (fun KK hK=>?_)
 go_simp
 generalize hw6:(u.alloc (.cells #[] 80)).drew=w6
 have b6:Below u.heap.size u w6:=by rw[<-hw6];exact((Below.refl _ _).alloc (Nat.le_refl _) _).drew
 have E6:w6.ownsRow u.heap.size 80 6 (.slice (some ⟨u.heap.size,0,none⟩) 0 0) 0 []:=by rw[<-hw6];exact(World.ownsRow_lit u #[] 0 (Nat.le_refl _) (by unfold maxLen;omega) rfl).drew
 have HE6:Hid (w6.ownsRow u.heap.size 80 6 (.slice (some ⟨u.heap.size,0,none⟩) 0 0) 0 []):=E6
 have HB6:Hid (Below u.heap.size u w6):=b6
 clear hw6 E6
 refine hK.out _ _ b6 (fun hHeld6=>?_)
 clear hK KK b6
 try go_frame
 refine wpAnyL_call (i:=3) rfl (by kernel_rfl) (fun KK hK=>?_)
 refine step_append_own rfl (.tmp 3) (.tmp 5) 45 rfl u.heap.size 80 iV (.agg #[.int .i64 0,.bool false,.int .i64 0,.int .i64 0,.int .i64 0,.int .i64 0]) 6 48 Try.underlying45 HIV.out.1 HIV.out.2.1 HIV.out.2.2.1 HIV.out.2.2.2 rfl (by decide) (.slice (some ⟨u.heap.size,0,none⟩) 0 0) 0 [] rfl HE6.out ⟨b,0,none⟩ 8 cap (first (8*6) (vF V)) rfl (first_length _ _) ?d1 ?d2 (by unfold maxLen;omega) (by omega) HB6.out.size ?_
 case d1=>
  intro j x hj
  obtain⟨hm,rfl⟩:=first_get hj
  rw[Addr.add_lit,Nat.zero_add]
  exact(HB6.out.cell (p:=⟨b,j,none⟩) (Nat.lt_of_lt_of_le HA.out.lt HBU.out.size)).trans ((HBU.out.cell (p:=⟨b,j,none⟩) HA.out.lt).trans (HA.out.cell hm))
 case d2=>
  intro x hx
  obtain⟨j,hj,rfl⟩:=first_mem hx
  unfold vF
  have:j%6<6:=Nat.mod_lt _ (by decide)
  generalize j%6=q at this⊢
  match q,this with
  |0,_=>rfl
  |1,_=>rfl
  |2,_=>rfl
  |3,_=>rfl
  |4,_=>rfl
  |5,_=>rfl
 intro vD w9 hownD hgrowD
 have hD:w9.ownsRow u.heap.size 80 6 vD 8 (first (8*6) (vF V)):=by simpa using hownD
 obtain⟨gD,cD,hvD⟩:=row_some' hD (by omega)
 subst hvD
 have b9:Below u.heap.size u w9:=HB6.out.trans ((Below.refl _ _).grown hgrowD HB6.out.size (by intro k hk;simp[Value.ownBlock]at hk;omega))
 have hg9:u.heap.size<=gD:=(hD.lt _ rfl).1
 have HD9:Hid (Arr w9 gD (8*6) (vF V)):=row_arr hD
 have HB9:Hid (Below u.heap.size u w9):=b9
 clear hownD hgrowD hD HE6 HB6
 refine hK.out _ _ b9 (fun hHeld9=>?_)
 clear hK KK
 try go_frame
 refine wpAnyL_tk 8 ?k7v rfl ?k7y ?k7r
 case k7y=>(intro w hSw;(try dsimp only at hSw);go_simp;try with_reducible rfl)
 try go_frame
 have r0:w9.cell? ⟨w.heap.size+1,0,none⟩=some (.slice none 0 0):=(HRU.out.below b9).2 0 (by simp)
 have r1:w9.cell? ⟨w.heap.size+1,1,none⟩=some (.int .i64 0):=(HRU.out.below b9).2 1 (by simp)
 have r2:w9.cell? ⟨w.heap.size+1,2,none⟩=some (.int .i64 0):=(HRU.out.below b9).2 2 (by simp)
 have rf:∀i,w9.frozen? ⟨w.heap.size+1,i,none⟩=false:=fun i=>(b9.frozen (p:=⟨w.heap.size+1,i,none⟩) hzu).trans (HRF.out i)
 have hz9:w.heap.size+1<w9.heap.size:=Nat.lt_of_lt_of_le hzu b9.size
 clear s0 s1 s2 b9
 refine wpAnyL_store rfl (by kernel_rfl) (by kernel_rfl) (fun KK hK=>?_)
 go_simp
 refine hK.out _ _ ?_
 clear hK KK
 have hne:gD≠w.heap.size+1:=by omega
 go_wp2
 refine bodyPost_ret (v:=.agg #[.slice (some ⟨gD,0,none⟩) 8 cD,.int .i64 z,.int .i64 c]) (by simp[results,Try.results56,go_sem, *]) rfl ⟨gD,cD,?_,rfl,?_,?_⟩
 ·have:=HBU.out.size;omega
 ·(iterate 3 refine Below.setCell ?_ (show w.heap.size<=w.heap.size+1 by omega) _)
  exact HBU.out.trans (HB9.out.mono HBU.out.size)
 ·exact((HD9.out.other (fun e=>hne e.symm) _).other (fun e=>hne e.symm) _).other (fun e=>hne e.symm) _
end Go.Proofs.Ytplnpgohdgialaa
