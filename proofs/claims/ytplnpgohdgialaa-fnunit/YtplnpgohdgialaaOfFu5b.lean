import Derived.Test.YtplnpgohdgialaaFuTr
import Derived.Test.YtplnpgohdgialaaFuTrS
import Derived.Test.YtplnpgohdgialaaOfFuTrM
import Derived.Test.YtplnpgohdgialaaOfTransSpS
import Derived.Test.YtplnpgohdgialaaOfDrawFlat
import Derived.Deep.CutBlock
set_option maxHeartbeats 16000000
set_option maxRecDepth 20000
namespace Go.Proofs.Ytplnpgohdgialaa
open Go.RowKit
def TrW(nH:Nat)(S:Nat->HS)(nR:Nat)(V0:Nat->VV)(nA:Nat)(V:Nat->VV)(z c op d ra rb imm h:Int)(w:World)(e:Ending)(w':World):Prop:=
 ∃(err:Int)(V':Nat->VV)(z' c':Int),TrAns w w' e err V' z' c'/\(err=0->absOK nH S nR V0 8 V' z' c'=true)/\(absOK nH S nR V0 nA V z c=true->implIns op d ra rb imm h=true->op=2∨op=11∨op=18->err=0)/\Below w.heap.size w w'
theorem specTr_any(bH cH nH:Nat)(S:Nat->HS)(bR cR nR:Nat)(V0:Nat->VV)(bA cA nA:Nat)(V:Nat->VV)(z c op d ra rb imm h:Int)(w:World)(lH:nH<=1048576)(lR:nR<=1048576)(lA:nA<=1048576)(h1:SigCp w bH nH S bR nR V0)(h2:Arr w bA (nA*6) (vF V)):
 Calls Try.prog 55 #[.agg #[.slice (some ⟨bH,0,none⟩) nH cH,.slice (some ⟨bR,0,none⟩) nR cR],.agg #[.slice (some ⟨bA,0,none⟩) nA cA,.int .i64 z,.int .i64 c],.agg #[.int .i64 op,.int .i64 d,.int .i64 ra,.int .i64 rb,.int .i64 imm,.int .i64 h]] w (TrW nH S nR V0 nA V z c op d ra rb imm h w):=by
 by_cases hv:absOK nH S nR V0 nA V z c=true/\implIns op d ra rb imm h=true/\op<=28
 rotate_left
 ·refine(specTransfer_no bH cH nH S bR cR nR V0 bA cA nA V z c op d ra rb imm h w lH lR lA h1 h2 hv).mono ?_
  rintro e w'⟨rfl,hb⟩;exact⟨11,V,z,c,Or.inl ⟨by decide,rfl⟩,fun e=>absurd e (by decide),fun a b o=>absurd ⟨a,b,by omega⟩ hv,hb⟩
 obtain⟨hok,hik,o28⟩:=hv;obtain⟨rfl,_,_⟩:=good_regs hok;obtain⟨o1,d0,d7,ra0,ra7,rb0,rb7,h0,h7,n0,n1,n2⟩:=ins_nats hik o28;obtain⟨di,rfl⟩:∃k:Nat,d=(k:Int):=⟨d.toNat,by omega⟩
 obtain⟨ia,rfl⟩:∃k:Nat,ra=(k:Int):=⟨ra.toNat,by omega⟩
 obtain⟨ib,rfl⟩:∃k:Nat,rb=(k:Int):=⟨rb.toNat,by omega⟩
 obtain⟨q,rfl⟩:∃k:Nat,h=(k:Int):=⟨h.toNat,by omega⟩
 have hx:Calls Try.prog 55 #[.agg #[.slice (some ⟨bH,0,none⟩) nH cH,.slice (some ⟨bR,0,none⟩) nR cR],.agg #[.slice (some ⟨bA,0,none⟩) 8 cA,.int .i64 z,.int .i64 c],.agg #[.int .i64 op,.int .i64 (di:Int),.int .i64 (ia:Int),.int .i64 (ib:Int),.int .i64 imm,.int .i64 (q:Int)]] w (TrX nH S nR V0 op w):=by
  by_cases o21:21<=op
  ·exact specTr_M bH cH nH S bR cR nR V0 bA cA V z c op imm di ia ib q (by omega) (by omega) (by omega) w lH lR h1 h2 hok hik o21 o28 n0 n1
  by_cases os:op=19∨op=20
  ·exact specTr_S bH cH nH S bR cR nR V0 bA cA V z c op imm di ia ib q (by omega) (by omega) (by omega) w lH lR h1 h2 hok hik os
  ·exact specTr_R bH cH nH S bR cR nR V0 bA cA V z c op imm di ia ib q (by omega) (by omega) (by omega) w lH lR h1 h2 hok hik o1 (by omega) n0 n1 n2
 refine hx.mono ?_;rintro e w'⟨err,V',z',c',hy,ha,ho,hb⟩;exact⟨err,V',z',c',hy,ha,fun _ _=>ho,hb⟩
theorem hq_fw{p q:Nat}{u u':World}{o:Obj}(h:u.heap[q]?=some o)(f:Fw p u u')(hp:p≠q):u'.heap[q]?=some o:=(f.block q (Array.getElem?_eq_some_iff.1 h).1 (fun e=>hp e.symm)).trans h
theorem hq_lt{q:Nat}{u:World}{o:Obj}(h:u.heap[q]?=some o):q<u.heap.size:=(Array.getElem?_eq_some_iff.1 h).1
theorem hq_below{q:Nat}{u u':World}{o:Obj}(h:u.heap[q]?=some o)(f:Below u.heap.size u u'):u'.heap[q]?=some o:=(f.block q (hq_lt h)).trans h
theorem grown_obj{u u':World}{row:Option Nat}{q:Nat}{o:Obj}(h:u.heap[q]?=some o)(hg:u.grownBy u' row)(hn:row≠some q):u'.heap[q]?=some o:=(hg.block q (hq_lt h) (fun e=>hn e.symm)).trans h
theorem grown_ne{B:Nat}{u:World}{q e s n' t:Nat}{v':Value}{xs:List Value}{cs:Array Value}(hx:u.heap[q]?=some (.cells cs t))(h2:u.ownsRow B e s v' n' xs)(he:t≠e):v'.ownBlock≠some q:=fun e1=>by
 rcases h2.2 with⟨h',_⟩|⟨g,cap,cur,h',_,h4,_⟩
 ·rw[h']at e1;cases e1
 ·rw[h']at e1
  have e2:g=q:=Option.some.inj e1;subst e2;rw[hx]at h4;exact he (Obj.cells.inj (Option.some.inj h4)).2.1
def V3(u:World)(b t:Nat)(x y z:Value):Prop:=u.heap[b]?=some (.cells #[x,y,z] t)
theorem V3.cells{u:World}{b t:Nat}{x y z:Value}(h:V3 u b t x y z):u.cell? ⟨b,0,none⟩=some x/\u.cell? ⟨b,1,none⟩=some y/\u.cell? ⟨b,2,none⟩=some z:=⟨(hq_cell h 0).trans rfl,(hq_cell h 1).trans rfl,(hq_cell h 2).trans rfl⟩
theorem V3.lt{u:World}{b t:Nat}{x y z:Value}(h:V3 u b t x y z):b<u.heap.size:=hq_lt h
theorem V3.free{u:World}{b t:Nat}{x y z:Value}(h:V3 u b t x y z):∀i,u.frozen? ⟨b,i,none⟩=false:=hq_free h
theorem V3.below{u u':World}{b t:Nat}{x y z:Value}(h:V3 u b t x y z)(f:Below u.heap.size u u'):V3 u' b t x y z:=hq_below h f
theorem V3.put{u:World}{b t:Nat}{x y z:Value}(h:V3 u b t x y z){q:Nat}(hq:b≠q)(j:Nat)(v:Value):V3 (u.setCell ⟨q,j,none⟩ v) b t x y z:=hq_other h hq j v
theorem V3.set{u:World}{b t:Nat}{x y z:Value}(h:V3 u b t x y z)(x' y' z':Value):V3 (((u.setCell ⟨b,0,none⟩ x').setCell ⟨b,1,none⟩ y').setCell ⟨b,2,none⟩ z') b t x' y' z':=hq_set (hq_set (hq_set h 0 x') 1 y') 2 z'
theorem V3.set0{u:World}{b t:Nat}{x y z:Value}(h:V3 u b t x y z)(x':Value):V3 (u.setCell ⟨b,0,none⟩ x') b t x' y z:=hq_set h 0 x'
theorem V3.new(u:World)(t:Nat)(x y z:Value):V3 (u.alloc (.cells #[x,y,z] t)) u.heap.size t x y z:=hq_new u _
def jfl(a b:Int):Int:=if a=0∨b=0 then 0 else if a=2∨b=2 then 2 else 1
theorem jfl_in(a b:Int):0<=jfl a b/\jfl a b<=2:=by unfold jfl;split<;>(try split)<;>omega
theorem l5JoinFlags_any(a b:Int)(w:World):Calls Try.prog 63 #[.int .i64 a,.int .i64 b] w fun e w'=>e=.returned (.int .i64 (jfl a b))/\w'=w:=by
 go_enter Try.func63,Try.ntmps63;go_wp2;all_goals(go_ret;refine⟨ret_int ?_,rfl⟩;simp_all[jfl])
theorem l5Flag_any(ao:Option Addr)(n cap:Nat)(z c cond:Int)(w:World):Calls Try.prog 53 #[.agg #[.slice ao n cap,.int .i64 z,.int .i64 c],.int .i64 cond] w fun e w'=>(∃r:Int,e=.returned (.int .i64 r))/\Below w.heap.size w w':=by
 go_enter Try.func53,Try.ntmps53;go_wp2;all_goals(go_ret;exact⟨⟨_,rfl⟩,(Below.refl _ _).alloc (Nat.le_refl _) _⟩)
def outV(err at':Int)(v:Value)(z c rounds:Int):Value:=.agg #[.int .i64 err,.int .i64 at',v,.int .i64 z,.int .i64 c,.int .i64 rounds]
theorem l5Bad_any(err at' rounds:Int)(w:World):Calls Try.prog 69 #[.int .i64 err,.int .i64 at',.int .i64 rounds] w fun e w'=>e=.returned (outV err at' (.slice none 0 0) 0 0 rounds)/\Below w.heap.size w w':=by
 go_enter Try.func69,Try.ntmps69;go_wp2;refine bodyPost_ret (v:=outV err at' (.slice none 0 0) 0 0 rounds) (by simp[results,Try.results69,go_sem,outV]) rfl ⟨rfl,?_⟩;exact(Below.refl _ _).alloc (Nat.le_refl _) _
theorem v_at{u:World}{b n:Nat}{V:Nat->VV}(h:Arr u b (n*6) (vF V)){q:Nat}(hq:q<n):u.cell? ⟨b,q*6,none⟩=some (.int .i64 (V q).k)/\u.cell? ⟨b,q*6+1,none⟩=some (.bool (V q).s)/\u.cell? ⟨b,q*6+2,none⟩=some (.int .i64 (V q).m)/\u.cell? ⟨b,q*6+3,none⟩=some (.int .i64 (V q).h)/\u.cell? ⟨b,q*6+4,none⟩=some (.int .i64 (V q).lo)/\u.cell? ⟨b,q*6+5,none⟩=some (.int .i64 (V q).hi):=
 ⟨(h.cell (i:=q*6+0) (by omega)).trans (congrArg some (vF_at V q 0 (by omega))),(h.cell (i:=q*6+1) (by omega)).trans (congrArg some (vF_at V q 1 (by omega))),(h.cell (i:=q*6+2) (by omega)).trans (congrArg some (vF_at V q 2 (by omega))),(h.cell (i:=q*6+3) (by omega)).trans (congrArg some (vF_at V q 3 (by omega))),(h.cell (i:=q*6+4) (by omega)).trans (congrArg some (vF_at V q 4 (by omega))),(h.cell (i:=q*6+5) (by omega)).trans (congrArg some (vF_at V q 5 (by omega)))⟩
theorem l5Same_any(bA cA:Nat)(V:Nat->VV)(z c:Int)(bB cB:Nat)(U:Nat->VV)(z' c':Int)(w:World)(hA:Arr w bA (8*6) (vF V))(hB:Arr w bB (8*6) (vF U)):
 Calls Try.prog 87 #[.agg #[.slice (some ⟨bA,0,none⟩) 8 cA,.int .i64 z,.int .i64 c],.agg #[.slice (some ⟨bB,0,none⟩) 8 cB,.int .i64 z',.int .i64 c']] w fun e w'=>(∃r:Bool,e=.returned (.bool r))/\Below w.heap.size w w':=by
 have HA:Hid (Arr w bA (8*6) (vF V)):=hA;have HB:Hid (Arr w bB (8*6) (vF U)):=hB;clear hA hB;go_enter Try.func87,Try.ntmps87;go_upto_region 1 with fail;obtain⟨u,hu,pa,pb,bu⟩:∃y,(w.alloc (.cells #[.slice (some ⟨bA,0,none⟩) 8 cA,.int .i64 z,.int .i64 c] 106)).alloc (.cells #[.slice (some ⟨bB,0,none⟩) 8 cB,.int .i64 z',.int .i64 c'] 106)=y/\V3 y w.heap.size 106 (.slice (some ⟨bA,0,none⟩) 8 cA) (.int .i64 z) (.int .i64 c)/\V3 y (w.heap.size+1) 106 (.slice (some ⟨bB,0,none⟩) 8 cB) (.int .i64 z') (.int .i64 c')/\Below w.heap.size w y:=by
  refine⟨_,rfl,(V3.new _ _ _ _ _).below ((Below.refl _ _).alloc (Nat.le_refl _) _),?_,((Below.refl _ _).alloc (Nat.le_refl _) _).alloc (by simp) _⟩;have:=V3.new (w.alloc (.cells #[.slice (some ⟨bA,0,none⟩) 8 cA,.int .i64 z,.int .i64 c] 106)) 106 (.slice (some ⟨bB,0,none⟩) 8 cB) (.int .i64 z') (.int .i64 c');simpa using this
 rw[hu];have RA:Hid (Arr u bA (8*6) (vF V)):=HA.out.below bu HA.out.lt;have RB:Hid (Arr u bB (8*6) (vF U)):=HB.out.below bu HB.out.lt;have BU:Hid (Below w.heap.size w u):=bu;obtain⟨a0,a1,a2⟩:=pa.cells;obtain⟨b0,b1,b2⟩:=pb.cells;have al:=pa.lt;have bl:=pb.lt;have PA:Hid (V3 u w.heap.size 106 (.slice (some ⟨bA,0,none⟩) 8 cA) (.int .i64 z) (.int .i64 c)):=pa;have PB:Hid (V3 u (w.heap.size+1) 106 (.slice (some ⟨bB,0,none⟩) 8 cB) (.int .i64 z') (.int .i64 c')):=pb;clear hu pa pb bu;obtain⟨ba,hba⟩:∃y,w.heap.size=y:=⟨_,rfl⟩
 obtain⟨bb,hbb⟩:∃y,w.heap.size+1=y:=⟨_,rfl⟩
 rw[hbb]at PB b0 b1 b2 bl⊢;rw[hba]at PA a0 a1 a2 al⊢;go_wp2
 ·go_ret
  exact⟨⟨_,rfl⟩,BU.out⟩
 rotate_left
 ·go_ret
  exact⟨⟨_,rfl⟩,BU.out⟩
 clear a0 a1 a2 b0 b1 b2 al bl;go_loopw [5](fun i wr=>∃k:Nat,k<=8/\i=.int .i64 k/\Below u.heap.size u wr)(fun i _=>8-(intOf i).toNat)
 case atStart=>exact⟨0,by omega,rfl,Below.refl _ _⟩
 case round=>
  obtain⟨k,hk,rfl,hbr⟩:=hrel;have HBR:Hid (Below u.heap.size u wr):=hbr;by_cases hlt:k<8
  ·obtain⟨a0,_,_⟩:=(PA.out.below hbr).cells
   obtain⟨b0,_,_⟩:=(PB.out.below hbr).cells;have al:=(PA.out.below hbr).lt;have bl:=(PB.out.below hbr).lt;obtain⟨g0,g1,g2,g3,g4,g5⟩:=v_at (RA.out.below hbr RA.out.lt) hlt;obtain⟨q0,q1,q2,q3,q4,q5⟩:=v_at (RB.out.below hbr RB.out.lt) hlt;have gl:=(RA.out.below hbr RA.out.lt).lt;have ql:=(RB.out.below hbr RB.out.lt).lt;have hlt':(k:Int)<8:=by omega
   clear hbr;obtain⟨x,hx⟩:∃y:VV,V k=y:=⟨_,rfl⟩
   obtain⟨y,hy⟩:∃y:VV,U k=y:=⟨_,rfl⟩
   rw[hx]at g0 g1 g2 g3 g4 g5;rw[hy]at q0 q1 q2 q3 q4 q5;obtain⟨x0,x1,x2,x3,x4,x5⟩:=x;obtain⟨y0,y1,y2,y3,y4,y5⟩:=y;dsimp only at g0 g1 g2 g3 g4 g5 q0 q1 q2 q3 q4 q5;clear hx hy;by_cases e0:x0=y0
   rotate_left
   ·have f0:(x0==y0)=false:=by simpa using e0
    go_wp2_with fail;go_quiet(fail);clear g0 g1 g2 g3 g4 g5 q0 q1 q2 q3 q4 q5 a0 b0 al bl gl ql;go_wp2;go_ret;exact⟨⟨_,rfl⟩,BU.out.trans ((HBR.out.trans (below_drewN (Below.refl _ _) _)).mono BU.out.size)⟩
   subst e0;by_cases e1:x1=y1
   rotate_left
   ·have f1:(x1==y1)=false:=by simpa using e1
    go_wp2_with fail;go_quiet(fail);clear g0 g1 g2 g3 g4 g5 q0 q1 q2 q3 q4 q5 a0 b0 al bl gl ql;go_wp2;go_ret;exact⟨⟨_,rfl⟩,BU.out.trans ((HBR.out.trans (below_drewN (Below.refl _ _) _)).mono BU.out.size)⟩
   subst e1;by_cases e2:x2=y2
   rotate_left
   ·have f2:(x2==y2)=false:=by simpa using e2
    go_wp2_with fail;go_quiet(fail);clear g0 g1 g2 g3 g4 g5 q0 q1 q2 q3 q4 q5 a0 b0 al bl gl ql;go_wp2;go_ret;exact⟨⟨_,rfl⟩,BU.out.trans ((HBR.out.trans (below_drewN (Below.refl _ _) _)).mono BU.out.size)⟩
   subst e2;by_cases e3:x3=y3
   rotate_left
   ·have f3:(x3==y3)=false:=by simpa using e3
    go_wp2_with fail;go_quiet(fail);clear g0 g1 g2 g3 g4 g5 q0 q1 q2 q3 q4 q5 a0 b0 al bl gl ql;go_wp2;go_ret;exact⟨⟨_,rfl⟩,BU.out.trans ((HBR.out.trans (below_drewN (Below.refl _ _) _)).mono BU.out.size)⟩
   subst e3;by_cases e4:x4=y4
   rotate_left
   ·have f4:(x4==y4)=false:=by simpa using e4
    go_wp2_with fail;go_quiet(fail);clear g0 g1 g2 g3 g4 g5 q0 q1 q2 q3 q4 q5 a0 b0 al bl gl ql;go_wp2;go_ret;exact⟨⟨_,rfl⟩,BU.out.trans ((HBR.out.trans (below_drewN (Below.refl _ _) _)).mono BU.out.size)⟩
   subst e4;by_cases e5:x5=y5
   rotate_left
   ·have f5:(x5==y5)=false:=by simpa using e5
    go_wp2_with fail;go_quiet(fail);clear g0 g1 g2 g3 g4 g5 q0 q1 q2 q3 q4 q5 a0 b0 al bl gl ql;go_wp2;go_ret;exact⟨⟨_,rfl⟩,BU.out.trans ((HBR.out.trans (below_drewN (Below.refl _ _) _)).mono BU.out.size)⟩
   subst e5;go_wp2_with fail;go_quiet(fail);clear g0 g1 g2 g3 g4 g5 q0 q1 q2 q3 q4 q5 a0 b0 al bl gl ql;go_wp2;go_roundw
   case rel=>exact⟨k+1,by omega,by go_num,HBR.out.trans (below_drewN (Below.refl _ _) _)⟩
   case measure=>simp[intOf];omega
  ·go_wp2
   go_ret;exact⟨⟨_,rfl⟩,BU.out.trans (hbr.mono BU.out.size)⟩
end Go.Proofs.Ytplnpgohdgialaa
namespace Go.Proofs.Ytplnpgohdgialaa
open Go.RowKit Go.Deep
def AbR(nH:Nat)(S:Nat->HS)(V0:Nat->VV)(w:World)(e:Ending)(w':World):Prop:=
 ∃(g cg:Nat)(V':Nat->VV)(z' c':Int),e=.returned (.agg #[.slice (some ⟨g,0,none⟩) 8 cg,.int .i64 z',.int .i64 c'])/\w.heap.size<=g/\Arr w' g (8*6) (vF V')/\absOK nH S 8 V0 8 V' z' c'=true/\Below w.heap.size w w'
def vcl(x:VV):List Value:=[.int .i64 x.k,.bool x.s,.int .i64 x.m,.int .i64 x.h,.int .i64 x.lo,.int .i64 x.hi]
theorem first_snoc(V:Nat->VV)(k:Nat):first (k*6) (vF V)++vcl (V k)=first ((k+1)*6) (vF V):=by
 unfold first
 rw[show(k+1)*6=k*6+1+1+1+1+1+1 by omega];simp only[List.range_succ,List.map_append,List.append_assoc,List.map_cons,List.map_nil];rw[<-Nat.add_zero (k*6),vF_at V k 0 (by omega)];simp only[Nat.add_zero];rw[vF_at V k 1 (by omega),vF_at V k 2 (by omega),vF_at V k 3 (by omega),vF_at V k 4 (by omega),vF_at V k 5 (by omega)];rfl
def Tn(row:Option Nat)(u u':World):Prop:=∀q,q<u.heap.size->row≠some q->u'.heap[q]?=u.heap[q]?
theorem Tn.of{row:Option Nat}{u u':World}(h:Below u.heap.size u u'):Tn row u u':=fun q hq _=>h.block q hq
theorem Tn.grown{row:Option Nat}{u u' u'':World}(h:Below u.heap.size u u')(g:u'.grownBy u'' row):Tn row u u'':=fun q hq hn=>(g.block q (Nat.lt_of_lt_of_le hq h.size) (fun e=>hn e.symm)).trans (h.block q hq)
theorem V3.tn{row:Option Nat}{u u':World}{b t:Nat}{x y z:Value}(h:V3 u b t x y z)(f:Tn row u u')(hn:row≠some b):V3 u' b t x y z:=(f b h.lt hn).trans h
theorem Arr.tn{row:Option Nat}{u u':World}{b n:Nat}{g:Nat->Value}(h:Arr u b n g)(f:Tn row u u')(hn:row≠some b):∀i,i<n->u'.cell? ⟨b,i,none⟩=some (g i):=fun i hi=>(World.cell?_of_block (a:=⟨b,i,none⟩) (f b h.lt hn)).trans (h.cell hi)
theorem own_ge{u:World}{B e s n q:Nat}{v:Value}{xs:List Value}(h:u.ownsRow B e s v n xs)(hq:v.ownBlock=some q):B<=q:=by
 rcases h.2 with⟨h',_⟩|⟨g,cap,cur,h',h1,_⟩
 ·rw[h']at hq;cases hq
 ·rw[h']at hq
  have:g=q:=Option.some.inj hq;omega
structure JX(w:World)(bA cA:Nat)(z c:Int)(bB cB:Nat)(z' c':Int)(ba bb br bo k:Nat)(v:Value)(J:Nat->VV)(u:World):Prop where
 bel:Below w.heap.size w u
 A:V3 u ba 106 (.slice (some ⟨bA,0,none⟩) 8 cA) (.int .i64 z) (.int .i64 c)
 B:V3 u bb 106 (.slice (some ⟨bB,0,none⟩) 8 cB) (.int .i64 z') (.int .i64 c')
 R:V3 u br 106 (.slice none 0 0) (.int .i64 0) (.int .i64 0)
 O:V3 u bo 106 v (.int .i64 (jfl z z')) (.int .i64 (jfl c c'))
 row:u.ownsRow w.heap.size 80 6 v k (first (k*6) (vF J))
 o1:w.heap.size=ba
 o2:ba<bb
 o3:bb<br
 o4:br<bo
theorem JX.below{w:World}{bA cA:Nat}{z c:Int}{bB cB:Nat}{z' c':Int}{ba bb br bo k:Nat}{v:Value}{J:Nat->VV}{u u':World}(h:JX w bA cA z c bB cB z' c' ba bb br bo k v J u)(f:Below u.heap.size u u'):JX w bA cA z c bB cB z' c' ba bb br bo k v J u':=
 ⟨h.bel.trans (f.mono h.bel.size),h.A.below f,h.B.below f,h.R.below f,h.O.below f,row_belowD h.row f,h.o1,h.o2,h.o3,h.o4⟩
theorem l5Join_any(nH:Nat)(S:Nat->HS)(V0:Nat->VV)(bA cA:Nat)(V:Nat->VV)(z c:Int)(bB cB:Nat)(U:Nat->VV)(z' c':Int)(w:World)(hA:Arr w bA (8*6) (vF V))(hB:Arr w bB (8*6) (vF U))(k1:absOK nH S 8 V0 8 V z c=true)(k2:absOK nH S 8 V0 8 U z' c'=true):
 Calls Try.prog 54 #[.agg #[.slice (some ⟨bA,0,none⟩) 8 cA,.int .i64 z,.int .i64 c],.agg #[.slice (some ⟨bB,0,none⟩) 8 cB,.int .i64 z',.int .i64 c']] w (AbR nH S V0 w):=by
 have HA:Hid (Arr w bA (8*6) (vF V)):=hA
 have HB:Hid (Arr w bB (8*6) (vF U)):=hB
 have HOK:Hid (absOK nH S 8 V0 8 (fun i=>joinV (V i) (U i)) (jfl z z') (jfl c c')=true):=(by
  obtain⟨q1,_,q3,_,_⟩:=abs_iff.1 k1
  obtain⟨_,_,r3,_,_⟩:=abs_iff.1 k2
  exact abs_iff.2 ⟨q1,rfl,fun i hi=>gv_join (q3 i hi) (r3 i hi),jfl_in _ _,jfl_in _ _⟩:absOK nH S 8 V0 8 (fun i=>joinV (V i) (U i)) (jfl z z') (jfl c c')=true)
 obtain⟨J,hJ⟩:∃y:Nat->VV,(fun i=>joinV (V i) (U i))=y:=⟨_,rfl⟩
 rw[hJ]at HOK
 have HJ:Hid (∀i,J i=joinV (V i) (U i)):=fun i=>by rw[<-hJ]
 obtain⟨iV,gV,gV0,gV1,gV2⟩:=info_parts info_cV
 have HIV:Hid (_/\_/\_/\_):=⟨gV,gV0,gV1,gV2⟩
 clear hA hB k1 k2 hJ gV gV0 gV1 gV2
 go_enter Try.func54,Try.ntmps54
 go_upto_region 1 with fail
 obtain⟨u,hu,pa,pb,pr,bu⟩:∃y,((w.alloc (.cells #[.slice (some ⟨bA,0,none⟩) 8 cA,.int .i64 z,.int .i64 c] 106)).alloc (.cells #[.slice (some ⟨bB,0,none⟩) 8 cB,.int .i64 z',.int .i64 c'] 106)).alloc (.cells #[.slice none 0 0,.int .i64 0,.int .i64 0] 106)=y/\V3 y w.heap.size 106 (.slice (some ⟨bA,0,none⟩) 8 cA) (.int .i64 z) (.int .i64 c)/\V3 y (w.heap.size+1) 106 (.slice (some ⟨bB,0,none⟩) 8 cB) (.int .i64 z') (.int .i64 c')/\V3 y (w.heap.size+1+1) 106 (.slice none 0 0) (.int .i64 0) (.int .i64 0)/\Below w.heap.size w y:=by
  have n0:=V3.new w 106 (.slice (some ⟨bA,0,none⟩) 8 cA) (.int .i64 z) (.int .i64 c)
  generalize hx:w.alloc (.cells #[.slice (some ⟨bA,0,none⟩) 8 cA,.int .i64 z,.int .i64 c] 106)=x at *
  have s0:x.heap.size=w.heap.size+1:=by rw[<-hx];simp
  have b0:Below w.heap.size w x:=by rw[<-hx];exact(Below.refl _ _).alloc (Nat.le_refl _) _
  have n1:=V3.new x 106 (.slice (some ⟨bB,0,none⟩) 8 cB) (.int .i64 z') (.int .i64 c')
  generalize hy:x.alloc (.cells #[.slice (some ⟨bB,0,none⟩) 8 cB,.int .i64 z',.int .i64 c'] 106)=y at *
  have s1:y.heap.size=w.heap.size+1+1:=by rw[<-hy];simp[s0]
  have b1:Below x.heap.size x y:=by rw[<-hy];exact(Below.refl _ _).alloc (Nat.le_refl _) _
  have n2:=V3.new y 106 (.slice none 0 0) (.int .i64 0) (.int .i64 0)
  have b2:Below y.heap.size y (y.alloc (.cells #[.slice none 0 0,.int .i64 0,.int .i64 0] 106)):=(Below.refl _ _).alloc (Nat.le_refl _) _
  rw[s0]at n1
  rw[s1]at n2
  exact⟨_,rfl,(n0.below b1).below b2,n1.below b2,n2,(b0.trans (b1.mono (by omega))).trans (b2.mono (by omega))⟩
 rw[hu]
 obtain⟨ba,hba⟩:∃y,w.heap.size=y:=⟨_,rfl⟩
 obtain⟨bb,hbb⟩:∃y,w.heap.size+1=y:=⟨_,rfl⟩
 obtain⟨br,hbr⟩:∃y,w.heap.size+1+1=y:=⟨_,rfl⟩
 rw[hbr]at pr⊢
 rw[hbb]at pb⊢
 rw[hba]at pa⊢
 have hbz:br<u.heap.size:=pr.lt
 have BO:Hid (w.heap.size=ba/\ba<bb/\bb<br):=⟨hba,by omega,by omega⟩
 have PA:Hid (V3 u ba 106 (.slice (some ⟨bA,0,none⟩) 8 cA) (.int .i64 z) (.int .i64 c)):=pa
 have PB:Hid (V3 u bb 106 (.slice (some ⟨bB,0,none⟩) 8 cB) (.int .i64 z') (.int .i64 c')):=pb
 have PR:Hid (V3 u br 106 (.slice none 0 0) (.int .i64 0) (.int .i64 0)):=pr
 have BU:Hid (Below w.heap.size w u):=bu
 clear hu pa pb pr bu hba hbb hbr
 go_cut [2,3,4,5](fun s2 s3 s4 s5 wx=>s2=.pointer (some ⟨ba,0,none⟩)/\s3=.pointer (some ⟨bb,0,none⟩)/\s4=.pointer (some ⟨br,0,none⟩)/\∃bo,s5=.pointer (some ⟨bo,0,none⟩)/\JX w bA cA z c bB cB z' c' ba bb br bo 0 (.slice none 0 0) J wx)
 case first=>
  have a1:∀w',Below u.heap.size u w'->w'.cell? ⟨ba,1,none⟩=some (.int .i64 z):=fun w' h=>(PA.out.below h).cells.2.1
  have a2:∀w',Below u.heap.size u w'->w'.cell? ⟨ba,2,none⟩=some (.int .i64 c):=fun w' h=>(PA.out.below h).cells.2.2
  have b1:∀w',Below u.heap.size u w'->w'.cell? ⟨bb,1,none⟩=some (.int .i64 z'):=fun w' h=>(PB.out.below h).cells.2.1
  have b2:∀w',Below u.heap.size u w'->w'.cell? ⟨bb,2,none⟩=some (.int .i64 c'):=fun w' h=>(PB.out.below h).cells.2.2
  have END:Hid (∀t:World,Below u.heap.size u t->JX w bA cA z c bB cB z' c' ba bb br t.heap.size 0 (.slice none 0 0) J (t.alloc (.cells #[.slice none 0 0,.int .i64 (jfl z z'),.int .i64 (jfl c c')] 106))):=fun t ht=>by
   have hz:=ht.size
   have bz:=BU.out.size
   have bn:Below t.heap.size t (t.alloc (.cells #[.slice none 0 0,.int .i64 (jfl z z'),.int .i64 (jfl c c')] 106)):=(Below.refl _ _).alloc (Nat.le_refl _) _
   exact⟨(BU.out.trans (ht.mono bz)).trans (bn.mono (by omega)),(PA.out.below ht).below bn,(PB.out.below ht).below bn,(PR.out.below ht).below bn,V3.new _ _ _ _ _,World.ownsRow_nil _ _ _ _,BO.out.1,BO.out.2.1,BO.out.2.2,by omega⟩
  refine wp_region_held_drew (S:=fun w'=>Below u.heap.size u w') (by kernel_rfl) (Below.refl _ _).drew (fun _=>?_)
  refine wpAnyH_tk 0 ?k1v rfl ?k1y ?k1r
  case k1y=>(intro w hSw;(try dsimp only at hSw);go_simp;try with_reducible rfl)
  try go_frame
  refine wpAnyH_tk 1 ?k2v rfl ?k2y ?k2r
  case k2y=>(intro w hSw;(try dsimp only at hSw);go_simp;try with_reducible rfl)
  try go_frame
  refine wpAnyH_tk 2 ?k3v rfl ?k3y ?k3r
  case k3y=>(intro w hSw;(try dsimp only at hSw);go_simp;try with_reducible rfl)
  try go_frame
  refine wpAnyH_tk 3 ?k4v rfl ?k4y ?k4r
  case k4y=>(intro w hSw;(try dsimp only at hSw);go_simp;try with_reducible rfl)
  try go_frame
  refine wpAnyH_tk 5 ?k5v rfl ?k5y ?k5r
  case k5y=>(intro w hSw;(try dsimp only at hSw);go_simp;try with_reducible rfl)
  try go_frame
  refine wpAnyH_tk 6 ?k6v rfl ?k6y ?k6r
  case k6y=>(intro w hSw;(try dsimp only at hSw);go_simp;try with_reducible rfl)
  try go_frame
  refine wpAnyH_tk 7 ?k7v rfl ?k7y ?k7r
  case k7y=>(intro w hSw;(try dsimp only at hSw);go_simp;try with_reducible rfl)
  try go_frame
  refine wpAnyH_tk 8 ?k8v rfl ?k8y ?k8r
  case k8y=>(intro w hSw;(try dsimp only at hSw);go_simp;try with_reducible rfl)
  try go_frame
  have hbd:Below u.heap.size u u.drew:=(Below.refl _ _).drew
  generalize u.drew=t0 at hbd⊢
  refine wpAnyH_ready (rs:=[4,11]) (by kernel_rfl) (by simp) ?_
  refine AllReadyH.cons rfl (fun KK hK=>?_) (AllReadyH.cons rfl (fun KK hK=>?_) AllReadyH.nil)
  ·skip
   go_simp
   refine(l5JoinFlags_any _ _ _).mono ?_
   rintro e w1⟨rfl,hw⟩
   rw[hw]
   clear hw
   refine hK.out _ _ hbd (fun _=>?_)
   clear hK KK
   try go_frame
   refine wpAnyH_ready (rs:=[9,11]) (by kernel_rfl) (by simp) ?_
   refine AllReadyH.cons rfl (fun KK hK=>?_) (AllReadyH.cons rfl (fun KK hK=>?_) AllReadyH.nil)
   ·skip
    go_simp
    refine(l5JoinFlags_any _ _ _).mono ?_
    rintro e w1⟨rfl,hw⟩
    rw[hw]
    clear hw
    refine hK.out _ _ hbd (fun _=>?_)
    clear hK KK
    try go_frame
    refine wpAnyH_tk 10 ?q1v rfl ?q1y ?q1r
    case q1y=>(intro w hSw;(try dsimp only at hSw);go_simp;try with_reducible rfl)
    try go_frame
    refine wpAnyH_ready (rs:=[11]) (by kernel_rfl) (by simp) ?_
    refine AllReadyH.cons rfl (fun KK hK=>?_) AllReadyH.nil
    go_simp
    refine hK.out _ _ (hbd.alloc hbd.size _) (fun _=>?_)
    clear hK KK
    try go_frame
    refine wpAnyH_ready (rs:=[12]) (by kernel_rfl) (by simp) ?_
    refine AllReadyH.cons rfl (fun KK hK=>?_) AllReadyH.nil
    go_simp
    refine hK.out _ _ (hbd.alloc hbd.size _) (fun _=>?_)
    clear hK KK
    try go_frame
    refine wpAnyH_done (by kernel_rfl) ?_ _
    go_wp2_with fail
    go_meet
    exact⟨rfl,rfl,rfl,_,rfl,END.out t0 hbd⟩
   ·skip
    go_simp
    refine hK.out _ _ (hbd.alloc hbd.size _) (fun _=>?_)
    clear hK KK
    try go_frame
    refine wpAnyH_ready (rs:=[9]) (by kernel_rfl) (by simp) ?_
    refine AllReadyH.cons rfl (fun KK hK=>?_) AllReadyH.nil
    go_simp
    refine(l5JoinFlags_any _ _ _).mono ?_
    rintro e w1⟨rfl,hw⟩
    rw[hw]
    clear hw
    refine hK.out _ _ (hbd.alloc hbd.size _) (fun _=>?_)
    clear hK KK
    try go_frame
    refine wpAnyH_tk 10 ?q2v rfl ?q2y ?q2r
    case q2y=>(intro w hSw;(try dsimp only at hSw);go_simp;try with_reducible rfl)
    try go_frame
    refine wpAnyH_ready (rs:=[12]) (by kernel_rfl) (by simp) ?_
    refine AllReadyH.cons rfl (fun KK hK=>?_) AllReadyH.nil
    go_simp
    refine hK.out _ _ (hbd.alloc hbd.size _) (fun _=>?_)
    clear hK KK
    try go_frame
    refine wpAnyH_done (by kernel_rfl) ?_ _
    go_wp2_with fail
    go_meet
    exact⟨rfl,rfl,rfl,_,rfl,END.out t0 hbd⟩
  ·skip
   go_simp
   refine hK.out _ _ (hbd.alloc hbd.size _) (fun _=>?_)
   clear hK KK
   try go_frame
   refine wpAnyH_ready (rs:=[4]) (by kernel_rfl) (by simp) ?_
   refine AllReadyH.cons rfl (fun KK hK=>?_) AllReadyH.nil
   go_simp
   refine(l5JoinFlags_any _ _ _).mono ?_
   rintro e w1⟨rfl,hw⟩
   rw[hw]
   clear hw
   refine hK.out _ _ (hbd.alloc hbd.size _) (fun _=>?_)
   clear hK KK
   try go_frame
   refine wpAnyH_ready (rs:=[9]) (by kernel_rfl) (by simp) ?_
   refine AllReadyH.cons rfl (fun KK hK=>?_) AllReadyH.nil
   go_simp
   refine(l5JoinFlags_any _ _ _).mono ?_
   rintro e w1⟨rfl,hw⟩
   rw[hw]
   clear hw
   refine hK.out _ _ (hbd.alloc hbd.size _) (fun _=>?_)
   clear hK KK
   try go_frame
   refine wpAnyH_tk 10 ?q3v rfl ?q3y ?q3r
   case q3y=>(intro w hSw;(try dsimp only at hSw);go_simp;try with_reducible rfl)
   try go_frame
   refine wpAnyH_ready (rs:=[12]) (by kernel_rfl) (by simp) ?_
   refine AllReadyH.cons rfl (fun KK hK=>?_) AllReadyH.nil
   go_simp
   refine hK.out _ _ (hbd.alloc hbd.size _) (fun _=>?_)
   clear hK KK
   try go_frame
   refine wpAnyH_done (by kernel_rfl) ?_ _
   go_wp2_with fail
   go_meet
   exact⟨rfl,rfl,rfl,_,rfl,END.out t0 hbd⟩
 case rest=>
 obtain⟨rfl,rfl,rfl,bo,rfl,fx⟩:=hcut
 have X0:Hid (JX w bA cA z c bB cB z' c' ba bb br bo 0 (.slice none 0 0) J wc):=fx
 clear fx PA PB PR BU
 generalize wc=u1 at X0⊢
 go_wp2_with fail
 go_loopw [6](fun iv wr=>∃(k:Nat)(v:Value),iv=.int .i64 k/\k<=8/\JX w bA cA z c bB cB z' c' ba bb br bo k v J wr)(fun iv _=>8-(intOf iv).toNat)
 case atStart=>exact⟨0,_,rfl,by omega,X0.out⟩
 case round=>
  clear X0
  obtain⟨k,v,rfl,hk,x⟩:=hrel
  have X:Hid (JX w bA cA z c bB cB z' c' ba bb br bo k v J wr):=x
  clear x
  obtain⟨va,vc,hv⟩:=row_slD X.out.row
  subst hv
  by_cases hlt:k<8
  rotate_left
  ·obtain rfl:k=8:=by omega
   obtain⟨g,cg,hv⟩:=row_some' X.out.row (by omega)
   obtain⟨rfl,rfl⟩:va=some ⟨g,0,none⟩/\vc=cg:=by simpa using hv
   have RW:Hid (wr.ownsRow w.heap.size 80 6 (.slice (some ⟨g,0,none⟩) 8 vc) 8 (first (8*6) (vF J))):=X.out.row
   obtain⟨c0,c1,c2⟩:=X.out.O.cells
   obtain⟨r0,r1,r2⟩:=X.out.R.cells
   have rf:=X.out.R.free
   have rl:=X.out.R.lt
   have ol:=X.out.O.lt
   have hne:g≠br:=fun e=>grown_ne X.out.R RW.out (by decide) (by rw[e];rfl)
   have wbr:w.heap.size<=br:=by have:=X.out.o1;have:=X.out.o2;have:=X.out.o3;omega
   have BEL:Hid (Below w.heap.size w wr):=X.out.bel
   have rg:w.heap.size<=g:=(RW.out.lt _ rfl).1
   clear X hv
   go_wp2_with fail
   refine bodyPost_ret (v:=.agg #[.slice (some ⟨g,0,none⟩) 8 vc,.int .i64 (jfl z z'),.int .i64 (jfl c c')]) (by simp[results,Try.results54,go_sem, *]) rfl ⟨g,vc,J,jfl z z',jfl c c',rfl,rg,?_,HOK.out,?_⟩
   ·exact(((row_arr RW.out).other (a:=⟨br,0,none⟩) (fun e=>hne e.symm) _).other (a:=⟨br,1,none⟩) (fun e=>hne e.symm) _).other (a:=⟨br,2,none⟩) (fun e=>hne e.symm) _
   ·(iterate 3 refine Below.setCell ?_ wbr _)
    exact BEL.out
  have hlt':(k:Int)<8:=by omega
  have wbo:bo<wr.heap.size:=X.out.O.lt
  have wl:w.heap.size<=wr.heap.size:=X.out.bel.size
  have wo:w.heap.size<=bo:=by have:=X.out.o1;have:=X.out.o2;have:=X.out.o3;have:=X.out.o4;omega
  have RA:Hid (Arr wr bA (8*6) (vF V)):=HA.out.below X.out.bel HA.out.lt
  have RB:Hid (Arr wr bB (8*6) (vF U)):=HB.out.below X.out.bel HB.out.lt
  have n0:(Value.slice va k vc).ownBlock≠some ba:=grown_ne X.out.A X.out.row (by decide)
  have n1:(Value.slice va k vc).ownBlock≠some bb:=grown_ne X.out.B X.out.row (by decide)
  have n2:(Value.slice va k vc).ownBlock≠some br:=grown_ne X.out.R X.out.row (by decide)
  have n3:(Value.slice va k vc).ownBlock≠some bo:=grown_ne X.out.O X.out.row (by decide)
  have n4:(Value.slice va k vc).ownBlock≠some bA:=fun e=>by have:=own_ge X.out.row e;have:=HA.out.lt;omega
  have n5:(Value.slice va k vc).ownBlock≠some bB:=fun e=>by have:=own_ge X.out.row e;have:=HB.out.lt;omega
  have NE:Hid ((Value.slice va k vc).ownBlock≠some ba/\(Value.slice va k vc).ownBlock≠some bb/\(Value.slice va k vc).ownBlock≠some br/\(Value.slice va k vc).ownBlock≠some bo):=⟨n0,n1,n2,n3⟩
  obtain⟨row,hrow⟩:∃y,(Value.slice va k vc).ownBlock=y:=⟨_,rfl⟩
  rw[hrow]at n0 n1 n2 n3 n4 n5
  have HRW:Hid ((Value.slice va k vc).ownBlock=row):=hrow
  clear hrow
  have o0:∀w',Tn row wr w'->w'.cell? ⟨bo,0,none⟩=some (.slice va k vc):=fun w' h=>(X.out.O.tn h n3).cells.1
  have a0:∀w',Tn row wr w'->w'.cell? ⟨ba,0,none⟩=some (.slice (some ⟨bA,0,none⟩) 8 cA):=fun w' h=>(X.out.A.tn h n0).cells.1
  have b0:∀w',Tn row wr w'->w'.cell? ⟨bb,0,none⟩=some (.slice (some ⟨bB,0,none⟩) 8 cB):=fun w' h=>(X.out.B.tn h n1).cells.1
  have g0:∀w',Tn row wr w'->w'.cell? ⟨bA,k*6,none⟩=some (.int .i64 (V k).k):=fun w' h=>(RA.out.tn h n4 (k*6+0) (by omega)).trans (congrArg some (vF_at V k 0 (by omega)))
  have g1:∀w',Tn row wr w'->w'.cell? ⟨bA,k*6+1,none⟩=some (.bool (V k).s):=fun w' h=>(RA.out.tn h n4 (k*6+1) (by omega)).trans (congrArg some (vF_at V k 1 (by omega)))
  have g2:∀w',Tn row wr w'->w'.cell? ⟨bA,k*6+2,none⟩=some (.int .i64 (V k).m):=fun w' h=>(RA.out.tn h n4 (k*6+2) (by omega)).trans (congrArg some (vF_at V k 2 (by omega)))
  have g3:∀w',Tn row wr w'->w'.cell? ⟨bA,k*6+3,none⟩=some (.int .i64 (V k).h):=fun w' h=>(RA.out.tn h n4 (k*6+3) (by omega)).trans (congrArg some (vF_at V k 3 (by omega)))
  have g4:∀w',Tn row wr w'->w'.cell? ⟨bA,k*6+4,none⟩=some (.int .i64 (V k).lo):=fun w' h=>(RA.out.tn h n4 (k*6+4) (by omega)).trans (congrArg some (vF_at V k 4 (by omega)))
  have g5:∀w',Tn row wr w'->w'.cell? ⟨bA,k*6+5,none⟩=some (.int .i64 (V k).hi):=fun w' h=>(RA.out.tn h n4 (k*6+5) (by omega)).trans (congrArg some (vF_at V k 5 (by omega)))
  have q0:∀w',Tn row wr w'->w'.cell? ⟨bB,k*6,none⟩=some (.int .i64 (U k).k):=fun w' h=>(RB.out.tn h n5 (k*6+0) (by omega)).trans (congrArg some (vF_at U k 0 (by omega)))
  have q1:∀w',Tn row wr w'->w'.cell? ⟨bB,k*6+1,none⟩=some (.bool (U k).s):=fun w' h=>(RB.out.tn h n5 (k*6+1) (by omega)).trans (congrArg some (vF_at U k 1 (by omega)))
  have q2:∀w',Tn row wr w'->w'.cell? ⟨bB,k*6+2,none⟩=some (.int .i64 (U k).m):=fun w' h=>(RB.out.tn h n5 (k*6+2) (by omega)).trans (congrArg some (vF_at U k 2 (by omega)))
  have q3:∀w',Tn row wr w'->w'.cell? ⟨bB,k*6+3,none⟩=some (.int .i64 (U k).h):=fun w' h=>(RB.out.tn h n5 (k*6+3) (by omega)).trans (congrArg some (vF_at U k 3 (by omega)))
  have q4:∀w',Tn row wr w'->w'.cell? ⟨bB,k*6+4,none⟩=some (.int .i64 (U k).lo):=fun w' h=>(RB.out.tn h n5 (k*6+4) (by omega)).trans (congrArg some (vF_at U k 4 (by omega)))
  have q5:∀w',Tn row wr w'->w'.cell? ⟨bB,k*6+5,none⟩=some (.int .i64 (U k).hi):=fun w' h=>(RB.out.tn h n5 (k*6+5) (by omega)).trans (congrArg some (vF_at U k 5 (by omega)))
  go_upto_region 5 with fail
  refine wp_region_L (T:=fun w'=>Tn row wr w') (s:=16) (by kernel_rfl) (Tn.of (Below.refl _ _).drew) (fun hHeld=>?_)
  have hB0:Below wr.heap.size wr wr.drew:=(Below.refl _ _).drew
  generalize wr.drew=t0 at hB0 hHeld⊢
  refine wpAnyL_tk 0 ?k9v rfl ?k9y ?k9r
  case k9y=>(intro w hSw;(try dsimp only at hSw);go_simp;try with_reducible rfl)
  try go_frame
  refine wpAnyL_tk 1 ?k10v rfl ?k10y ?k10r
  case k10y=>(intro w hSw;(try dsimp only at hSw);go_simp;try with_reducible rfl)
  try go_frame
  refine wpAnyL_tk 2 ?k11v rfl ?k11y ?k11r
  case k11y=>(intro w hSw;(try dsimp only at hSw);go_simp;try with_reducible rfl)
  try go_frame
  refine wpAnyL_tk 3 ?k12v rfl ?k12y ?k12r
  case k12y=>(intro w hSw;(try dsimp only at hSw);go_simp;try with_reducible rfl)
  try go_frame
  refine wpAnyL_tk 4 ?k13v rfl ?k13y ?k13r
  case k13y=>(intro w hSw;(try dsimp only at hSw);go_simp;try with_reducible rfl)
  try go_frame
  refine wpAnyL_tk 5 ?k14v rfl ?k14y ?k14r
  case k14y=>(intro w hSw;(try dsimp only at hSw);go_simp;try with_reducible rfl)
  try go_frame
  refine wpAnyL_tk 6 ?k15v rfl ?k15y ?k15r
  case k15y=>(intro w hSw;(try dsimp only at hSw);go_simp;try with_reducible rfl)
  try go_frame
  refine wpAnyL_tk 7 ?k16v rfl ?k16y ?k16r
  case k16y=>(intro w hSw;(try dsimp only at hSw);go_simp;try with_reducible rfl)
  try go_frame
  refine wpAnyL_tk 8 ?k17v rfl ?k17y ?k17r
  case k17y=>(intro w hSw;(try dsimp only at hSw);go_simp;try with_reducible rfl)
  try go_frame
  refine wpAnyL_tk 9 ?k18v rfl ?k18y ?k18r
  case k18y=>(intro w hSw;(try dsimp only at hSw);go_simp;try with_reducible rfl)
  try go_frame
  refine wpAnyL_tk 10 ?k19v rfl ?k19y ?k19r
  case k19y=>(intro w hSw;(try dsimp only at hSw);go_simp;try with_reducible rfl)
  try go_frame
  refine wpAnyL_tk 11 ?k20v rfl ?k20y ?k20r
  case k20y=>(intro w hSw;(try dsimp only at hSw);go_simp;try with_reducible rfl)
  try go_frame
  refine wpAnyL_call (i:=12) rfl (by kernel_rfl) (fun KK hK=>?_)
  go_simp
  refine(specJoin_any _ _ _ _ _ _ _ _ _ _ _ _ _).mono ?_
  rintro e t1⟨rfl,hb1⟩
  have hB1:Below wr.heap.size wr t1:=hB0.trans (hb1.mono hB0.size)
  refine hK.out _ _ (Tn.of hB1) (fun _=>?_)
  clear hK KK hb1 hB0 hHeld
  have hj:=HJ.out k
  obtain⟨j,hje⟩:∃y:VV,J k=y:=⟨_,rfl⟩
  have HJK:Hid (J k=j):=hje
  rw[show(⟨(V k).k,(V k).s,(V k).m,(V k).h,(V k).lo,(V k).hi⟩:VV)=V k from rfl,show(⟨(U k).k,(U k).s,(U k).m,(U k).h,(U k).lo,(U k).hi⟩:VV)=U k from rfl,<-hj,hje]
  clear hj hje
  unfold VV.v
  try go_frame
  refine wpAnyL_call (i:=13) rfl (by kernel_rfl) (fun KK hK=>?_)
  go_simp
  obtain⟨t2,ht2,hb2,HC2⟩:∃y,t1.alloc (.cells #[.int .i64 j.k,.bool j.s,.int .i64 j.m,.int .i64 j.h,.int .i64 j.lo,.int .i64 j.hi] 80)=y/\Below t1.heap.size t1 y/\Hid (∀i x,(vcl j)[i]?=some x->y.cell? ((⟨t1.heap.size,0,none⟩:Addr).add i)=some x):=⟨_,rfl,(Below.refl _ _).alloc (Nat.le_refl _) _,cells_newD t1 _ _⟩
  rw[ht2]
  have hB2:Below wr.heap.size wr t2:=hB1.trans (hb2.mono hB1.size)
  obtain⟨tb,htb⟩:∃y,t1.heap.size=y:=⟨_,rfl⟩
  rw[htb]at HC2⊢
  refine hK.out _ _ (Tn.of hB2) (fun _=>?_)
  clear hK KK ht2 hb2 htb hB1
  try go_frame
  refine wpAnyL_call (i:=14) rfl (by kernel_rfl) (fun KK hK=>?_)
  refine step_append_own rfl (.tmp 23) (.tmp 35) 45 rfl w.heap.size 80 iV (.agg #[.int .i64 0,.bool false,.int .i64 0,.int .i64 0,.int .i64 0,.int .i64 0]) 6 48 Try.underlying45 HIV.out.1 HIV.out.2.1 HIV.out.2.2.1 HIV.out.2.2.2 rfl (by decide) (.slice va k vc) k (first (k*6) (vF J)) rfl (row_belowD X.out.row hB2) ⟨tb,0,none⟩ 1 1 (vcl j) rfl rfl HC2.out ?d2 (by unfold maxLen;omega) (by omega) (by have:=hB2.size;omega) ?_
  case d2=>
   intro x hx
   simp only[vcl,List.mem_cons,List.not_mem_nil,or_false]at hx
   rcases hx with rfl|rfl|rfl|rfl|rfl|rfl<;>rfl
  intro v' t3 hown hgrow
  obtain⟨m0,m1,m2,m3⟩:=NE.out
  have X2:=X.out.below hB2
  have A3:=grown_obj X2.A hgrow m0
  have B3:=grown_obj X2.B hgrow m1
  have R3:=grown_obj X2.R hgrow m2
  have O3:V3 t3 bo 106 (.slice va k vc) (.int .i64 (jfl z z')) (.int .i64 (jfl c c')):=grown_obj X2.O hgrow m3
  have bel3:Below w.heap.size w t3:=X2.bel.trans ((Below.refl _ _).grown hgrow X2.bel.size (fun q hq=>own_ge X.out.row hq))
  have X3:Hid (∃v'',v'=v''/\JX w bA cA z c bB cB z' c' ba bb br bo (k+1) v'' J (t3.setCell ⟨bo,0,none⟩ v'')):=⟨_,rfl,by
   have hown':t3.ownsRow w.heap.size 80 6 v' (k+1) (first ((k+1)*6) (vF J)):=by rw[<-first_snoc,HJK.out];exact hown
   refine⟨bel3.setCell (p:=⟨bo,0,none⟩) wo _,hq_other A3 (by have:=X.out.o2;have:=X.out.o3;have:=X.out.o4;omega) _ _,hq_other B3 (by have:=X.out.o3;have:=X.out.o4;omega) _ _,hq_other R3 (by have:=X.out.o4;omega) _ _,O3.set0 _,row_put hown' (grown_ne O3 hown' (by decide)) _ _,X.out.o1,X.out.o2,X.out.o3,X.out.o4⟩⟩
  have hT3:t3.cell? ⟨bo,0,none⟩=some (.slice va k vc):=O3.cells.1
  have hF3:=O3.free
  have hL3:=O3.lt
  have hT:Tn row wr t3:=Tn.grown hB2 (by rw[<-HRW.out];exact hgrow)
  obtain⟨sa,scp,rfl⟩:=row_slD hown
  obtain⟨v'',e'',X4⟩:=X3.out
  subst e''
  have X4:Hid (JX w bA cA z c bB cB z' c' ba bb br bo (k+1) (.slice sa (k+1) scp) J (t3.setCell ⟨bo,0,none⟩ (.slice sa (k+1) scp))):=X4
  refine hK.out _ _ hT (fun _=>?_)
  clear hK KK hown hgrow m0 m1 m2 m3 X2 A3 B3 R3 O3 bel3 X3 o0 a0 b0 g0 g1 g2 g3 g4 g5 q0 q1 q2 q3 q4 q5 hT hB2
  try go_frame
  refine wpAnyL_tk 15 ?k21v rfl ?k21y ?k21r
  case k21y=>(intro w hSw;(try dsimp only at hSw);go_simp;try with_reducible rfl)
  try go_frame
  refine wpAnyL_store rfl (by kernel_rfl) (by kernel_rfl) (fun KK hK=>?_)
  go_simp
  refine hK.out _ _ ?_
  clear hK KK hT3 hF3 hL3
  go_wp2_with fail
  go_roundw
  case rel=>exact⟨k+1,_,by go_num,by omega,X4.out⟩
  case measure=>simp[intOf];omega
end Go.Proofs.Ytplnpgohdgialaa
