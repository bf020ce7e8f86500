import Derived.Test.YtfpeecaaleijcaaGreatDoorRows
import Derived.Test.YtfpeecaaleijcaaGreatDoorOfCl
import Derived.WalkKit
import Derived.WalkSpells
import Derived.WalkLawsBesides
import Derived.Test.YtfpeecaaleijcaaGreatDoorOfTransAcc
set_option maxHeartbeats 8000000
set_option maxRecDepth 20000
namespace Go.Proofs.YtfpeecaaleijcaaGreatDoor
open Go.RowKit
variable {f:Nat->Value}{w:World}
def first(m:Nat)(f:Nat->Value):List Value:=(List.range m).map f
theorem Je(m:Nat)(f:Nat->Value):(first m f).length=m:=by simp[first]
theorem Oe{m:Nat}{j:Nat}{u:Value}(h:(first m f)[j]?=some u):j<m/\u=f j:=by
 unfold first at h
 rw[List.getElem?_map]at h;by_cases hj:j<m
 ·rw[List.getElem?_range hj]at h
  exact⟨hj,by simpa using h.symm⟩
 ·rw[List.getElem?_eq_none (by simpa using Nat.le_of_not_lt hj)]at h
  cases h
theorem OW{m:Nat}{u:Value}(h:u∈first m f):∃j,j<m/\u=f j:=by
 unfold first at h
 simp only[List.mem_map,List.mem_range]at h;obtain⟨j,hj,rfl⟩:=h;exact⟨j,hj,rfl⟩
theorem Gg{P:Program}{ops:Array Oper}{o:Oper}{a:Act}{K:Act->World->Prop}{Q:Exit->Act->World->Prop}{E:Prop}
 (hg:o.guard=none)(s x:Operand)(t:TypeId)(hop:o.op=Op.call {callee:=Callee.builtin Builtin.append,args:=#[s,x],argTypes:=#[t,t]})(base:Nat)
 (e:TypeId)(i:TypeInfo)(z:Value)(size bytes:Nat)(h1:P.underlying t=some (.slice e))(h2:P.info? e=some i)(h3:i.zero=some z)(h4:i.size=size)(h5:i.bytes=bytes)(h6:z.cells.size=size)(h7:0<size)
 (v:Value)(n:Nat)(olds:List Value)(hs:a.eval s=v)(hown:w.ownsRow base e size v n olds)
 (ad:Addr)(m c:Nat)(news:List Value)(hx:a.eval x=.slice (some ad) m c)(hn:news.length=m*size)(hc:∀j u,news[j]?=some u->w.cell? (ad.add j)=some u)(h1c:∀u∈news,u.oneCell'=true)
 (b1:n+m<=maxLen)(b2:(n+m)*bytes<=140737488355328)(hb:base<=w.heap.size)
 (hK:∀v' w',w'.ownsRow base e size v' (n+m) (olds++news)->w.grownBy w' v.ownBlock->K (a.put o.dst v') w'):
 if Region.wanted o (yielded ops a.tmps)=true then Oper.wp P o a w K Q else E:=by
 have hw:Region.wanted o (yielded ops a.tmps)=true:=by simp[Region.wanted,hg]
 rw[if_pos hw];obtain⟨v',w',hrun,r1,r2,_⟩:=run_append_own (P:=P) w base t o.type e i z size bytes h1 h2 h3 h4 h5 h6 h7 v n olds hown ad m c news hn hc h1c b1 b2 hb;unfold Oper.wp;simp[execOp,hop,resolve,invoke,builtin,hs,hx,hrun,Result.andThen];exact hK v' w' r1 r2
theorem LM:(Tryz.prog.info? 42).map (fun i=>(i.zero,i.size,i.bytes))=some (some (.agg #[Vi 0,.bool false,Vi 0,Vi 0,Vi 0,Vi 0]),6,48):=by kernel_rfl
theorem Fv{base e size n:Nat}{v:Value}{xs:List Value}(h:w.ownsRow base e size v n xs)(hn:0<n):∃g c,v=Vs g n c:=by
 rcases h.2 with⟨_,rfl⟩|⟨g,cap,cur,rfl,_⟩
 ·omega
 ·exact⟨_,_,rfl⟩
theorem QN{base e g n cap:Nat}(h:w.ownsRow base e 6 (Vs g n cap) n (first (n*6) f)):A9 w g (n*6) f:=
 ⟨(h.lt _ rfl).2,fun i=>h.frozenAt i,fun i hi=>by rw[h.cellAt i hi];simp[first,hi]⟩
theorem H9(b cap:Nat)(V:Nat->VV)(z c:Int)(w:World)(h:A9 w b (8*6) (vF V)):
 Calls Tryz.prog 136 #[.agg #[Vs b 8 cap,Vi z,Vi c]] w fun e w'=>∃g cg,w.heap.size<=g/\e=.returned (.agg #[Vs g 8 cg,Vi z,Vi c])/\Below w.heap.size w w'/\A9 w' g (8*6) (vF V):=by
 have HA:=hxy h;clear h;go_enter Tryz.func136,Tryz.ntmps136;go_upto_region 1 with fail;obtain⟨u,hu,hbu,cu,ru,rf⟩:∃v,(w.alloc (.cells #[Vs b 8 cap,Vi z,Vi c] 136)).alloc (.cells #[.slice none 0 0,Vi 0,Vi 0] 136)=v/\Below w.heap.size w v/\Cl v w.heap.size [Vs b 8 cap,Vi z,Vi c]/\Cl v (w.heap.size+1) [.slice none 0 0,Vi 0,Vi 0]/\(∀i,v.frozen? ⟨w.heap.size+1,i,none⟩=false):=by
  refine⟨_,rfl,(Ak).alloc (by simp) _,(Cl.new).below Ak,?_,fun i=>by simp[go_sem]⟩;have h:=Cl.new (w:=w.alloc (.cells #[Vs b 8 cap,Vi z,Vi c] 136)) (vs:=#[.slice none 0 0,Vi 0,Vi 0]) (t:=136);simp only[World.size_alloc]at h;exact h
 rw[hu];clear hu;obtain⟨iV,gV,gV0,gV1,gV2⟩:=info_parts LM;have HIV:Hid (_/\_/\_/\_):=⟨gV,gV0,gV1,gV2⟩
 clear gV gV0 gV1 gV2;have s0:∀w',Below u.heap.size u w'->w'.cell? ⟨w.heap.size,0,none⟩=some (Vs b 8 cap):=fun w' h=>(cu.below h).2 0 (by simp)
 have s1:∀w',Below u.heap.size u w'->w'.cell? ⟨w.heap.size,1,none⟩=some (Vi z):=fun w' h=>(cu.below h).2 1 (by simp)
 have s2:∀w',Below u.heap.size u w'->w'.cell? ⟨w.heap.size,2,none⟩=some (Vi c):=fun w' h=>(cu.below h).2 2 (by simp)
 have HBU:=hxy hbu;have HRU:=hxy ru;have HRF:=hxy rf;have hzu:=ru.1;clear hbu cu ru rf;refine BF (T:=fun w'=>Below u.heap.size u w') (s:=9) (by kernel_rfl) (Below.refl _ _).drew (fun hHeld=>?_);refine AJ 1 rfl ?_;refine AJ 2 rfl ?_;refine AJ 4 rfl ?_;refine AJ 5 rfl ?_;refine AJ 6 rfl ?_;refine AJ 7 rfl ?_;refine Aq (i:=0) rfl (by kernel_rfl) (fun KK hK=>?_);go_simp;generalize hw6:(u.alloc (.cells #[] 42)).drew=w6;have b6:Below u.heap.size u w6:=by rw[<-hw6];exact(Ak).drew
 have E6:w6.ownsRow u.heap.size 42 6 (Vs u.heap.size 0 0) 0 []:=by rw[<-hw6];exact(World.ownsRow_lit u #[] 0 jG (by unfold maxLen;omega) rfl).drew
 have HE6:=hxy E6;have HB6:=hxy b6;clear hw6 E6;refine hK.out _ _ b6 (fun hHeld6=>?_);clear hK KK b6;try go_frame
 refine Aq (i:=3) rfl (by kernel_rfl) (fun KK hK=>?_);refine Gg rfl (.tmp 3) (.tmp 5) 24 rfl u.heap.size 42 iV (.agg #[Vi 0,.bool false,Vi 0,Vi 0,Vi 0,Vi 0]) 6 48 Tryz.underlying24 HIV.out.1 HIV.out.2.1 HIV.out.2.2.1 HIV.out.2.2.2 rfl (by decide) (Vs u.heap.size 0 0) 0 [] rfl HE6.out ⟨b,0,none⟩ 8 cap (first (8*6) (vF V)) rfl (Je _ _) ?d1 ?d2 (by unfold maxLen;omega) (by omega) HB6.out.size ?_
 case d1=>
  intro j x hj;obtain⟨hm,rfl⟩:=Oe hj;rw[Addr.add_lit,Nat.zero_add];exact(HB6.out.cell (p:=Va b j) (jI HA.out.lt HBU.out.size)).trans ((HBU.out.cell (p:=Va b j) HA.out.lt).trans (HA.out.cell hm))
 case d2=>
  intro x hx;obtain⟨j,hj,rfl⟩:=OW hx;unfold vF;have:j%6<6:=Nat.mod_lt _ (by decide);generalize j%6=q at this⊢;match q,this with
  |0,_=>rfl
  |1,_=>rfl
  |2,_=>rfl
  |3,_=>rfl
  |4,_=>rfl
  |5,_=>rfl
 intro vD w9 hownD hgrowD;have hD:w9.ownsRow u.heap.size 42 6 vD 8 (first (8*6) (vF V)):=by simpa using hownD
 obtain⟨gD,cD,hvD⟩:=Fv hD (by omega);subst hvD;have b9:Below u.heap.size u w9:=HB6.out.trans ((Below.refl _ _).grown hgrowD HB6.out.size (by intro k hk;simp[Value.ownBlock]at hk;omega));have hg9:u.heap.size<=gD:=(hD.lt _ rfl).1;have HD9:=hxy (QN hD);have HB9:=hxy b9;clear hownD hgrowD hD HE6 HB6;refine hK.out _ _ b9 (fun hHeld9=>?_);clear hK KK;try go_frame
 refine AJ 8 rfl ?_
 have r0:w9.cell? ⟨w.heap.size+1,0,none⟩=some (.slice none 0 0):=(HRU.out.below b9).2 0 (by simp)
 have r1:w9.cell? ⟨w.heap.size+1,1,none⟩=some (Vi 0):=(HRU.out.below b9).2 1 (by simp)
 have r2:w9.cell? ⟨w.heap.size+1,2,none⟩=some (Vi 0):=(HRU.out.below b9).2 2 (by simp)
 have rf:∀i,w9.frozen? ⟨w.heap.size+1,i,none⟩=false:=fun i=>(b9.frozen (p:=⟨w.heap.size+1,i,none⟩) hzu).trans (HRF.out i)
 have hz9:w.heap.size+1<w9.heap.size:=jI hzu b9.size
 clear s0 s1 s2 b9
 refine A7 rfl (by kernel_rfl) (by kernel_rfl) (fun KK hK=>?_)
 go_simp
 refine hK.out _ _ ?_
 clear hK KK
 have hne:gD≠w.heap.size+1:=by omega
 go_wp2
 refine bodyPost_ret (v:=.agg #[Vs gD 8 cD,Vi z,Vi c]) (by simp[results,Tryz.results136,go_sem, *]) rfl ⟨gD,cD,?_,rfl,?_,?_⟩
 ·have:=HBU.out.size;omega
 ·(iterate 3 refine Below.setCell ?_ (show w.heap.size<=w.heap.size+1 by omega) _)
  exact HBU.out.trans (HB9.out.mono HBU.out.size)
 ·exact((HD9.out.other (fun e=>hne e.symm) _).other (fun e=>hne e.symm) _).other (fun e=>hne e.symm) _
end Go.Proofs.YtfpeecaaleijcaaGreatDoor
