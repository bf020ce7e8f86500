import Derived.Test.YtdbhgaegblclaaaDoorRdLost
import Derived.Test.YtdbhgaegblclaaaDoorRdSpec
set_option maxHeartbeats 6400000
set_option maxRecDepth 20000
namespace Go.Proofs.YtdbhgaegblclaaaDoor
open Go.RowKit
theorem program_any(B rb mb:Nat)(lv:Value)(rows:List Row)(w:World)(h:RD w B rb mb lv rows)(hn:(rows.length:Int)<=1048576)(hwf:∀r∈rows,(Lit.int .i64 r.2.imm).wf=true):
 Calls Tryd.prog 44 #[.pointer (some ⟨rb,0,none⟩)] w fun e w'=>∃v,e=.returned v/\w'.ownsRow w.heap.size 56 6 v (prgI rows rows).length (ci (prgI rows rows))/\Below w.heap.size w w':=by
 obtain⟨ao,cap,hlv⟩:=row_sl h.L
 subst hlv
 have X:Hid (RD w B rb mb (.slice ao rows.length cap) rows):=h
 have HWF:Hid (∀r∈rows,(Lit.int .i64 r.2.imm).wf=true):=hwf
 clear h hwf
 obtain⟨iS,hi1,hi2,hi3,hi4⟩:∃i,Tryd.prog.info? 56=some i/\i.zero=some (.agg #[.int .i64 0,.int .i64 0,.int .i64 0,.int .i64 0,.int .i64 0,.int .i64 0])/\i.size=6/\i.bytes=48:=by
  have:=info_ins
  rcases hh:Tryd.prog.info? 56 with _|i
  ·rw[hh]at this;simp at this
  ·rw[hh]at this;simp at this;exact⟨i,rfl,this⟩
 have HIS:Hid (Tryd.prog.info? 56=some iS/\iS.zero=some (.agg #[.int .i64 0,.int .i64 0,.int .i64 0,.int .i64 0,.int .i64 0,.int .i64 0])/\iS.size=6/\iS.bytes=48):=⟨hi1,hi2,hi3,hi4⟩
 clear hi1 hi2 hi3 hi4
 have c0:w.cell? ⟨rb,0,none⟩=some (.slice ao rows.length cap):=hp_cell X.out.R 0
 go_enter Tryd.func44,Tryd.ntmps44
 go_wp2_with fail
 clear c0
 go_loopw [3,5,6,12](fun pv _ _ kv wr=>∃k:Nat,k<=rows.length/\kv=.int .i64 k/\Below w.heap.size w wr/\wr.ownsRow w.heap.size 56 6 pv (prgI rows (rows.take k)).length (ci (prgI rows (rows.take k))))(fun _ _ _ kv _=>rows.length-(intOf kv).toNat)
 case atStart=>exact⟨0,Nat.zero_le _,rfl,Below.refl _ _,World.ownsRow_nil _ _ _ _⟩
 case round=>
  obtain⟨k,hk,rfl,hbr,hown⟩:=hrel
  obtain⟨part,hpart⟩:∃x,prgI rows (rows.take k)=x:=⟨_,rfl⟩
  rw[hpart]at hown
  have HPA:Hid (prgI rows (rows.take k)=part):=hpart
  have hpl:part.length<=k:=by
   rw[<-hpart]
   have:=prg_len rows (rows.take k)
   simp at this
   omega
  have OP:Hid (wr.ownsRow w.heap.size 56 6 u3 part.length (ci part)):=hown
  have XR:Hid (RD wr B rb mb (.slice ao rows.length cap) rows):=X.out.below hbr
  have BR:Hid (Below w.heap.size w wr):=hbr
  clear hown hpart
  by_cases hlt:k<rows.length
  rotate_left
  ·have hl1:¬(k:Int)<rows.length:=by omega
   have HPR:Hid (prgI rows rows=part):=(by rw[<-HPA.out,List.take_of_length_le (by omega)]:prgI rows rows=part)
   go_wp2_with fail
   go_ret
   exact⟨u3,rfl,by rw[HPR.out];exact OP.out,BR.out⟩
  have hl1:(k:Int)<rows.length:=by omega
  obtain⟨g,hg⟩:∃g,ao=some ⟨g,0,none⟩:=by
   rcases X.out.L.2 with⟨_,h0⟩|⟨g,cp,cur,h,_⟩
   ·omega
   ·exact⟨g,(Value.slice.inj h).1⟩
  subst hg
  obtain⟨r,hr⟩:∃r,rows.getD k (false,nv0)=r:=⟨_,rfl⟩
  have hrm:r∈rows:=by
   rw[<-hr,List.getD_eq_getElem?_getD,List.getElem?_eq_getElem hlt]
   exact List.getElem_mem hlt
  have hwk:(Lit.int .i64 r.2.imm).wf=true:=HWF.out r hrm
  have HR:Hid (rows.getD k (false,nv0)=r):=hr
  have cell:∀j,j<7->wr.cell? ⟨g,k*7+j,none⟩=(lnV r)[j]?:=fun j hj=>by
   rw[XR.out.L.cellAt (k*7+j) (by omega),lnL_at rows k j hlt hj,hr]
  obtain⟨lb,x⟩:=r
  have c0:wr.cell? ⟨g,k*7,none⟩=some (.bool lb):=cell 0 (by omega)
  have c1:wr.cell? ⟨g,k*7+1,none⟩=some (.int .i64 x.op):=cell 1 (by omega)
  have c2:wr.cell? ⟨g,k*7+2,none⟩=some (.int .i64 x.d):=cell 2 (by omega)
  have c3:wr.cell? ⟨g,k*7+3,none⟩=some (.int .i64 x.a):=cell 3 (by omega)
  have c4:wr.cell? ⟨g,k*7+4,none⟩=some (.int .i64 x.b):=cell 4 (by omega)
  have c5:wr.cell? ⟨g,k*7+5,none⟩=some (.int .i64 x.imm):=cell 5 (by omega)
  have c6:wr.cell? ⟨g,k*7+6,none⟩=some (.int .i64 x.h):=cell 6 (by omega)
  clear hr hrm cell hbr
  cases lb with
  |true=>
   have N1:Hid (∀o,Below w.heap.size w (wr.alloc o)/\(wr.alloc o).ownsRow w.heap.size 56 6 u3 (prgI rows (rows.take (k+1))).length (ci (prgI rows (rows.take (k+1))))):=fun o=>by
    refine⟨BR.out.alloc BR.out.size _,?_⟩
    rw[prg_snoc hlt,HPA.out,HR.out]
    show(wr.alloc o).ownsRow w.heap.size 56 6 u3 (part++[]).length (ci (part++[]))
    rw[List.append_nil]
    exact row_belowB OP.out ((Below.refl _ _).alloc (Nat.le_refl _) _)
   go_wp2_with fail
   go_roundw
   case rel=>exact⟨k+1,by omega,by go_num,(N1.out _).1,(N1.out _).2⟩
   case measure=>simp[intOf];omega
  |false=>
   go_upto_region 7 with fail
   obtain⟨w8,hw8,B8,O9,hx8⟩:∃v,(wr.alloc (.cells #[.bool false,.int .i64 x.op,.int .i64 x.d,.int .i64 x.a,.int .i64 x.b,.int .i64 x.imm,.int .i64 x.h] 109)).alloc (.cells #[.int .i64 x.op,.int .i64 x.d,.int .i64 x.a,.int .i64 x.b,.int .i64 x.imm,.int .i64 x.h] 56)=v/\Hid (Below w.heap.size w v)/\Hid (v.ownsRow w.heap.size 56 6 u3 part.length (ci part))/\v.heap[wr.heap.size+1]?=some (.cells #[.int .i64 x.op,.int .i64 x.d,.int .i64 x.a,.int .i64 x.b,.int .i64 x.imm,.int .i64 x.h] 56):=by
    have h1:Below wr.heap.size wr (wr.alloc (.cells #[.bool false,.int .i64 x.op,.int .i64 x.d,.int .i64 x.a,.int .i64 x.b,.int .i64 x.imm,.int .i64 x.h] 109)):=(Below.refl _ _).alloc (Nat.le_refl _) _
    have e1:(wr.alloc (.cells #[.bool false,.int .i64 x.op,.int .i64 x.d,.int .i64 x.a,.int .i64 x.b,.int .i64 x.imm,.int .i64 x.h] 109)).heap.size=wr.heap.size+1:=by simp
    have hB1:=BR.out.alloc BR.out.size (.cells #[.bool false,.int .i64 x.op,.int .i64 x.d,.int .i64 x.a,.int .i64 x.b,.int .i64 x.imm,.int .i64 x.h] 109)
    refine⟨_,rfl,hB1.alloc hB1.size _,row_belowB (row_belowB OP.out h1) ((Below.refl _ _).alloc (Nat.le_refl _) _),?_⟩
    rw[<-e1]
    exact heap_alloc_newB _ _
   have hqn:u3.ownBlock≠some (wr.heap.size+1):=fun e=>by have:=(OP.out.lt _ e).2;omega
   obtain⟨qb,hqb⟩:∃q,wr.heap.size+1=q:=⟨_,rfl⟩
   have hwq:w.heap.size<=qb:=by have:=BR.out.size;omega
   rw[hw8]
   rw[hqb]at hx8 hqn⊢
   have HQN:Hid (u3.ownBlock≠some qb):=hqn
   have X8:Hid (RD w8 B rb mb (.slice (some ⟨g,0,none⟩) rows.length cap) rows):=X.out.below B8.out
   have HX8:Hid (w8.heap[qb]?=some (.cells #[.int .i64 x.op,.int .i64 x.d,.int .i64 x.a,.int .i64 x.b,.int .i64 x.imm,.int .i64 x.h] 56)):=hx8
   clear hw8 hqb c0 c1 c2 c3 c4 c5 c6 hx8 hqn
   have x0:=hp_cell HX8.out 0
   have x1:=hp_cell HX8.out 1
   have x2:=hp_cell HX8.out 2
   have x3:=hp_cell HX8.out 3
   have x4:=hp_cell HX8.out 4
   have x5:=hp_cell HX8.out 5
   have xf:=hp_free HX8.out
   simp only[List.getElem?_toArray,List.getElem?_cons_zero,List.getElem?_cons_succ]at x0 x1 x2 x3 x4 x5
   cases hj:jumpB x.op with
   |false=>
    go_upto_region 9 with(first|(go_at_call 38;refine(jumpI_any _ _).mono ?_;rintro e w2⟨rfl,hw2⟩;rw[hw2,hj];clear hw2))
    have OA:Hid (∀o,(w8.alloc o).ownsRow w.heap.size 56 6 u3 part.length (ci part)):=fun o=>row_belowB O9.out ((Below.refl _ _).alloc (Nat.le_refl _) _)
    have BA:Hid (∀o,Below w.heap.size w (w8.alloc o)):=fun o=>B8.out.alloc B8.out.size _
    have hBa:∀o,w.heap.size<=(w8.alloc o).heap.size:=fun o=>(BA.out o).size
    have HCN:Hid (∀j u,[Value.int .i64 x.op,.int .i64 x.d,.int .i64 x.a,.int .i64 x.b,.int .i64 x.imm,.int .i64 x.h][j]?=some u->(w8.alloc (.cells #[.int .i64 x.op,.int .i64 x.d,.int .i64 x.a,.int .i64 x.b,.int .i64 x.imm,.int .i64 x.h] 56)).cell? ((⟨w8.heap.size,0,none⟩:Addr).add j)=some u):=cells_newR w8 _ _
    have HTO:Hid (toI rows x=x):=(by unfold toI;rw[hj];rfl:toI rows x=x)
    go_wp2_with(first|(at_builtin;refine wpList_append_own_at _ rfl _ _ 23 rfl w.heap.size 56 iS _ 6 48 Tryd.underlying23 HIS.out.1 HIS.out.2.1 HIS.out.2.2.1 HIS.out.2.2.2 rfl (by decide) _ _ _ rfl (OA.out _) ⟨w8.heap.size,0,none⟩ 1 1 [Value.int .i64 x.op,.int .i64 x.d,.int .i64 x.a,.int .i64 x.b,.int .i64 x.imm,.int .i64 x.h] rfl rfl HCN.out ?c2 ?c3 ?c4 (hBa _) ?_))
    case c2=>simp[Value.oneCell']
    case c3=>unfold maxLen;omega
    case c4=>omega
    intro v' w12 hown hgrow _ _
    have B12:Hid (Below w.heap.size w w12):=(BA.out _).grown hgrow (hBa _) (fun k hk=>((OA.out (.cells #[] 0)).lt k hk).1)
    have O12:Hid (w12.ownsRow w.heap.size 56 6 v' (prgI rows (rows.take (k+1))).length (ci (prgI rows (rows.take (k+1))))):=(by
     rw[prg_snoc hlt,HPA.out,HR.out]
     show w12.ownsRow w.heap.size 56 6 v' (part++[toI rows x]).length (ci (part++[toI rows x]))
     rw[HTO.out,ci_app,ci_one,List.length_append]
     exact hown:w12.ownsRow w.heap.size 56 6 v' (prgI rows (rows.take (k+1))).length (ci (prgI rows (rows.take (k+1)))))
    clear hown hgrow x0 x1 x2 x3 x4 x5 xf
    go_wp2_with fail
    go_roundw
    case rel=>exact⟨k+1,by omega,by go_num,B12.out,O12.out⟩
    case measure=>simp[intOf];omega
   |true=>
    have m1:w8.cell? ⟨rb,1,none⟩=some (.map (some mb)):=hp_cell X8.out.R 1
    obtain⟨a,ha⟩:∃a,(labOf rows x.imm).getD 0=a:=⟨_,rfl⟩
    have hlk:∀w',Below w8.heap.size w8 w'->(Instr.lookup 64 (.map (some mb)) (.int .i64 x.imm) false).run Tryd.prog w'=.ok (.int .i64 (a:Int)) w':=fun w' hb=>by
     obtain⟨o,h1,h2⟩:=X8.out.M
     have:=(h2 w' ((hb.block mb (Array.getElem?_eq_some_iff.1 h1).1).trans h1) x.imm hwk).2
     rw[ha]at this
     exact this
    have HA:Hid ((labOf rows x.imm).getD 0=a):=ha
    have lrz:rb<w8.heap.size:=(Array.getElem?_eq_some_iff.1 X8.out.R).1
    have lqz:qb<w8.heap.size:=(Array.getElem?_eq_some_iff.1 HX8.out).1
    have M1:∀w',Below w8.heap.size w8 w'->w'.cell? ⟨rb,1,none⟩=some (.map (some mb)):=fun w' hb=>(hb.cell (p:=⟨rb,1,none⟩) lrz).trans m1
    have Q4:∀w',Below w8.heap.size w8 w'->w'.cell? ⟨qb,4,none⟩=some (.int .i64 x.imm):=fun w' hb=>(hb.cell (p:=⟨qb,4,none⟩) lqz).trans x4
    clear ha m1
    go_upto_region 8 with(first|(go_at_call 38;refine(jumpI_any _ _).mono ?_;rintro e w2⟨rfl,hw2⟩;rw[hw2,hj];clear hw2))
    refine wp_region_L (T:=fun w'=>Below w8.heap.size w8 w') (s:=8) (by kernel_rfl) (Below.refl _ _).drew (fun hHeld=>?_)
    refine wpAnyL_tk 0 ?k1v rfl ?k1y ?k1r
    case k1y=>(intro w hSw;(try dsimp only at hSw);go_simp;try with_reducible rfl)
    try simp only[Act.put,List.getElem_toArray,List.getElem_cons_zero,List.setIfInBounds_toArray,List.set_cons_zero,List.set_cons_succ]
    refine wpAnyL_tk 1 ?k2v rfl ?k2y ?k2r
    case k2y=>(intro w hSw;(try dsimp only at hSw);go_simp;try with_reducible rfl)
    try simp only[Act.put,List.getElem_toArray,List.getElem_cons_zero,List.getElem_cons_succ,List.setIfInBounds_toArray,List.set_cons_zero,List.set_cons_succ]
    refine wpAnyL_tk 2 ?k3v rfl ?k3y ?k3r
    case k3y=>(intro w hSw;(try dsimp only at hSw);go_simp;try with_reducible rfl)
    try simp only[Act.put,List.getElem_toArray,List.getElem_cons_zero,List.getElem_cons_succ,List.setIfInBounds_toArray,List.set_cons_zero,List.set_cons_succ]
    refine wpAnyL_tk 3 ?k4v rfl ?k4y ?k4r
    case k4y=>(intro w hSw;(try dsimp only at hSw);go_simp;try with_reducible rfl)
    try simp only[Act.put,List.getElem_toArray,List.getElem_cons_zero,List.getElem_cons_succ,List.setIfInBounds_toArray,List.set_cons_zero,List.set_cons_succ]
    refine wpAnyL_tk 4 ?k5v rfl ?k5y ?k5r
    case k5y=>(intro w hSw;(try dsimp only at hSw);go_simp;try with_reducible rfl)
    try simp only[Act.put,List.getElem_toArray,List.getElem_cons_zero,List.getElem_cons_succ,List.setIfInBounds_toArray,List.set_cons_zero,List.set_cons_succ]
    refine wpAnyL_tk 5 ?k6v rfl ?k6y ?k6r
    case k6y=>(intro w hSw;(try dsimp only at hSw);go_simp;try with_reducible rfl)
    try simp only[Act.put,List.getElem_toArray,List.getElem_cons_zero,List.getElem_cons_succ,List.setIfInBounds_toArray,List.set_cons_zero,List.set_cons_succ]
    refine wpAnyL_tk 6 ?k7v rfl ?k7y ?k7r
    case k7y=>(intro w hSw;(try dsimp only at hSw);go_simp;try with_reducible rfl)
    try simp only[Act.put,List.getElem_toArray,List.getElem_cons_zero,List.getElem_cons_succ,List.setIfInBounds_toArray,List.set_cons_zero,List.set_cons_succ]
    refine wpAnyL_tk 7 ?k8v rfl ?k8y ?k8r
    case k8y=>(intro w hSw;(try dsimp only at hSw);go_simp;try with_reducible rfl)
    try simp only[Act.put,List.getElem_toArray,List.getElem_cons_zero,List.getElem_cons_succ,List.setIfInBounds_toArray,List.set_cons_zero,List.set_cons_succ]
    have d4:w8.drew.cell? ⟨qb,4,none⟩=some (.int .i64 x.imm):=x4
    have df:∀j,w8.drew.frozen? ⟨qb,j,none⟩=false:=xf
    have dz:qb<w8.drew.heap.size:=lqz
    refine wpAnyL_store rfl (by kernel_rfl) (by kernel_rfl) (fun KK hK=>?_)
    go_simp
    refine hK.out _ _ ?_
    clear hK KK hHeld M1 Q4 hlk d4 df dz x0 x1 x2 x3 x4 x5 xf
    have O8:Hid (w8.ownsRow w.heap.size 56 6 u3 part.length (ci part)):=O9.out
    clear O9
    obtain⟨w10,hw10,B10,O9,hx10⟩:∃v,w8.drew.setCell ⟨qb,4,none⟩ (.int .i64 (a:Int))=v/\Hid (Below w.heap.size w v)/\Hid (v.ownsRow w.heap.size 56 6 u3 part.length (ci part))/\v.heap[qb]?=some (.cells #[.int .i64 x.op,.int .i64 x.d,.int .i64 x.a,.int .i64 x.b,.int .i64 (a:Int),.int .i64 x.h] 56):=by
     refine⟨_,rfl,B8.out.drew.setCell hwq _,?_,hp_set (w:=w8.drew) HX8.out 4 _⟩
     refine(⟨O8.out.1,?_⟩:World.ownsRow _ _ _ _ _ _ _)
     rcases O8.out.2 with h|⟨g2,c2,cur2,h,a1,a2,a3⟩
     ·exact .inl h
     ·exact .inr ⟨g2,c2,cur2,h,a1,hp_other (w:=w8.drew) a2 (fun e=>HQN.out (by rw[h,<-e];rfl)) _ _,a3⟩
    first|rw[hw10]|(rw[show(w8.setCell ⟨qb,4,none⟩ (.int .i64 (a:Int))).drew=w10 from hw10])
    clear hw10
    have x0:=hp_cell hx10 0
    have x1:=hp_cell hx10 1
    have x2:=hp_cell hx10 2
    have x3:=hp_cell hx10 3
    have x4:=hp_cell hx10 4
    have x5:=hp_cell hx10 5
    have xf:=hp_free hx10
    simp only[List.getElem?_toArray,List.getElem?_cons_zero,List.getElem?_cons_succ]at x0 x1 x2 x3 x4 x5
    have OA:Hid (∀o,(w10.alloc o).ownsRow w.heap.size 56 6 u3 part.length (ci part)):=fun o=>row_belowB O9.out ((Below.refl _ _).alloc (Nat.le_refl _) _)
    have BA:Hid (∀o,Below w.heap.size w (w10.alloc o)):=fun o=>B10.out.alloc B10.out.size _
    have hBa:∀o,w.heap.size<=(w10.alloc o).heap.size:=fun o=>(BA.out o).size
    have HCN:Hid (∀j u,[Value.int .i64 x.op,.int .i64 x.d,.int .i64 x.a,.int .i64 x.b,.int .i64 (a:Int),.int .i64 x.h][j]?=some u->(w10.alloc (.cells #[.int .i64 x.op,.int .i64 x.d,.int .i64 x.a,.int .i64 x.b,.int .i64 (a:Int),.int .i64 x.h] 56)).cell? ((⟨w10.heap.size,0,none⟩:Addr).add j)=some u):=cells_newR w10 _ _
    have HTO:Hid (toI rows x={x with imm:=(a:Int)}):=(by unfold toI;rw[hj,if_pos rfl,HA.out]:toI rows x={x with imm:=(a:Int)})
    go_wp2_with(first|(at_builtin;refine wpList_append_own_at _ rfl _ _ 23 rfl w.heap.size 56 iS _ 6 48 Tryd.underlying23 HIS.out.1 HIS.out.2.1 HIS.out.2.2.1 HIS.out.2.2.2 rfl (by decide) _ _ _ rfl (OA.out _) ⟨w10.heap.size,0,none⟩ 1 1 [Value.int .i64 x.op,.int .i64 x.d,.int .i64 x.a,.int .i64 x.b,.int .i64 (a:Int),.int .i64 x.h] rfl rfl HCN.out ?c2 ?c3 ?c4 (hBa _) ?_))
    case c2=>simp[Value.oneCell']
    case c3=>unfold maxLen;omega
    case c4=>omega
    intro v' w12 hown hgrow _ _
    have B12:Hid (Below w.heap.size w w12):=(BA.out _).grown hgrow (hBa _) (fun k hk=>((OA.out (.cells #[] 0)).lt k hk).1)
    have O12:Hid (w12.ownsRow w.heap.size 56 6 v' (prgI rows (rows.take (k+1))).length (ci (prgI rows (rows.take (k+1))))):=(by
     rw[prg_snoc hlt,HPA.out,HR.out]
     show w12.ownsRow w.heap.size 56 6 v' (part++[toI rows x]).length (ci (part++[toI rows x]))
     rw[HTO.out,ci_app,ci_one,List.length_append]
     exact hown:w12.ownsRow w.heap.size 56 6 v' (prgI rows (rows.take (k+1))).length (ci (prgI rows (rows.take (k+1)))))
    clear hown hgrow x0 x1 x2 x3 x4 x5 xf
    go_wp2_with fail
    go_roundw
    case rel=>exact⟨k+1,by omega,by go_num,B12.out,O12.out⟩
    case measure=>simp[intOf];omega
end Go.Proofs.YtdbhgaegblclaaaDoor
