import Derived.Test.YtdbhgaegblclaaaDoorRdRL
set_option maxHeartbeats 3200000
set_option maxRecDepth 20000
namespace Go.Proofs.YtdbhgaegblclaaaDoor
open Go.RowKit
def lnL(rows:List Row):List Value:=rows.flatMap lnV
theorem lnL_len(rows:List Row):(lnL rows).length=rows.length*7:=by
 induction rows with
 |nil=>rfl
 |cons a l ih=>show(lnV a++lnL l).length=(l.length+1)*7;rw[List.length_append,ih];show 7+_=_;omega
theorem lnL_app(a b:List Row):lnL (a++b)=lnL a++lnL b:=by simp[lnL]
theorem lnL_at:∀(rows:List Row)(i j:Nat),i<rows.length->j<7->(lnL rows)[i*7+j]?=(lnV (rows.getD i (false,nv0)))[j]?
 |[],i,j,h,_=>by simp at h
 |r::rows,0,j,_,hj=>by
  show(lnV r++lnL rows)[0*7+j]?=_;rw[show 0*7+j=j by omega,List.getElem?_append_left (by show j<7;exact hj)];rfl
 |r::rows,i+1,j,h,hj=>by
  show(lnV r++lnL rows)[(i+1)*7+j]?=_;rw[List.getElem?_append_right (by show 7<=_;omega),show(i+1)*7+j-(lnV r).length=i*7+j by show _-7=_;omega,lnL_at rows i j (by simpa using h) hj];simp
def LabAt(w:World)(mb:Nat)(rows:List Row):Prop:=∃o,w.heap[mb]?=some o/\∀w':World,w'.heap[mb]?=some o->∀k:Int,(Lit.int .i64 k).wf=true->
 (Instr.lookup 64 (.map (some mb)) (.int .i64 k) true).run Tryd.prog w'=.ok (.tuple #[.int .i64 (((labOf rows k).getD 0:Nat):Int),.bool (labOf rows k).isSome]) w'/\
 (Instr.lookup 64 (.map (some mb)) (.int .i64 k) false).run Tryd.prog w'=.ok (.int .i64 (((labOf rows k).getD 0:Nat):Int)) w'
theorem LabAt.below{w w':World}{mb B:Nat}{rows:List Row}(h:LabAt w mb rows)(hb:Below B w w')(hB:mb<B):LabAt w' mb rows:=by
 obtain⟨o,h1,h2⟩:=h;exact⟨o,(hb.block mb hB).trans h1,h2⟩
structure RD(w:World)(B rb mb:Nat)(lv:Value)(rows:List Row):Prop where
 R:w.heap[rb]?=some (.cells #[lv,.map (some mb),.int .i64 (cntI rows:Int)] 67)
 L:w.ownsRow B 109 7 lv rows.length (lnL rows)
 M:LabAt w mb rows
theorem RD.below{w w':World}{B rb mb:Nat}{lv:Value}{rows:List Row}(h:RD w B rb mb lv rows)(hb:Below w.heap.size w w'):RD w' B rb mb lv rows:=by
 refine⟨(hb.block rb (Array.getElem?_eq_some_iff.1 h.R).1).trans h.R,row_belowB h.L hb,?_⟩;obtain⟨o,h1,h2⟩:=h.M;exact⟨o,(hb.block mb (Array.getElem?_eq_some_iff.1 h1).1).trans h1,h2⟩
theorem lostLabel_any(B rb mb:Nat)(lv:Value)(rows:List Row)(w:World)(h:RD w B rb mb lv rows)(hn:(rows.length:Int)<=1048576)(hwf:∀r∈rows,(Lit.int .i64 r.2.imm).wf=true):
 Calls Tryd.prog 43 #[.pointer (some ⟨rb,0,none⟩)] w fun e w'=>e=.returned (.int .i64 (lostI rows))/\Below w.heap.size w w':=by
 obtain⟨ao,cap,hlv⟩:=row_sl h.L;subst hlv;have X:Hid (RD w B rb mb (.slice ao rows.length cap) rows):=h;have HWF:Hid (∀r∈rows,(Lit.int .i64 r.2.imm).wf=true):=hwf;clear h hwf;obtain⟨n,hnn⟩:∃n,cntI rows=n:=⟨_,rfl⟩
 have HN:Hid (cntI rows=n):=hnn;have c0:w.cell? ⟨rb,0,none⟩=some (.slice ao rows.length cap):=hp_cell X.out.R 0;clear hnn;go_enter Tryd.func43,Tryd.ntmps43;go_wp2_with fail;clear c0;go_loopw [3,4,5,6,12](fun _ _ _ _ kv wr=>∃k:Nat,k<=rows.length/\kv=.int .i64 k/\Below w.heap.size w wr/\∀j,j<k->lostR rows (rows.getD j (false,nv0))=false)(fun _ _ _ _ kv _=>rows.length-(intOf kv).toNat)
 case atStart=>exact⟨0,Nat.zero_le _,rfl,Below.refl _ _,fun j hj=>by omega⟩
 case round=>
  obtain⟨k,hk,rfl,hbr,hno⟩:=hrel;have NO:Hid (∀j,j<k->lostR rows (rows.getD j (false,nv0))=false):=hno;have XR:Hid (RD wr B rb mb (.slice ao rows.length cap) rows):=X.out.below hbr;clear hno;by_cases hlt:k<rows.length
  rotate_left
  ·have hl1:¬(k:Int)<rows.length:=by omega
   have HL:Hid (lostI rows=0):=lost_none fun j hj=>NO.out j (by omega)
   go_wp2_with fail;go_ret;exact⟨by rw[HL.out];rfl,hbr⟩
  have hl1:(k:Int)<rows.length:=by omega
  obtain⟨g,hg⟩:∃g,ao=some ⟨g,0,none⟩:=by
   rcases X.out.L.2 with⟨_,h0⟩|⟨g,cp,cur,h,_⟩
   ·omega
   ·exact⟨g,(Value.slice.inj h).1⟩
  subst hg;obtain⟨r,hr⟩:∃r,rows.getD k (false,nv0)=r:=⟨_,rfl⟩
  have hrm:r∈rows:=by
   rw[<-hr,List.getD_eq_getElem?_getD,List.getElem?_eq_getElem hlt];exact List.getElem_mem hlt
  have hwk:(Lit.int .i64 r.2.imm).wf=true:=HWF.out r hrm;have HR:Hid (rows.getD k (false,nv0)=r):=hr;have cell:∀j,j<7->wr.cell? ⟨g,k*7+j,none⟩=(lnV r)[j]?:=fun j hj=>by
   rw[XR.out.L.cellAt (k*7+j) (by omega),lnL_at rows k j hlt hj,hr]
  obtain⟨lb,x⟩:=r;have c0:wr.cell? ⟨g,k*7,none⟩=some (.bool lb):=cell 0 (by omega);have c1:wr.cell? ⟨g,k*7+1,none⟩=some (.int .i64 x.op):=cell 1 (by omega);have c2:wr.cell? ⟨g,k*7+2,none⟩=some (.int .i64 x.d):=cell 2 (by omega);have c3:wr.cell? ⟨g,k*7+3,none⟩=some (.int .i64 x.a):=cell 3 (by omega);have c4:wr.cell? ⟨g,k*7+4,none⟩=some (.int .i64 x.b):=cell 4 (by omega);have c5:wr.cell? ⟨g,k*7+5,none⟩=some (.int .i64 x.imm):=cell 5 (by omega);have c6:wr.cell? ⟨g,k*7+6,none⟩=some (.int .i64 x.h):=cell 6 (by omega);have HLK:Hid (lostR rows (lb,x)=((lb||jumpB x.op)&&(match labOf rows x.imm with|some a=>a==n|none=>true))):=(by
   unfold lostR;rw[HN.out];cases labOf rows x.imm<;>rfl:lostR rows (lb,x)=((lb||jumpB x.op)&&(match labOf rows x.imm with|some a=>a==n|none=>true)))
  clear hr hrm cell;go_upto_region 4 with fail;obtain⟨w8,hw8,b8,hq8⟩:∃v,wr.alloc (.cells #[.bool lb,.int .i64 x.op,.int .i64 x.d,.int .i64 x.a,.int .i64 x.b,.int .i64 x.imm,.int .i64 x.h] 109)=v/\Below w.heap.size w v/\v.heap[wr.heap.size]?=some (.cells #[.bool lb,.int .i64 x.op,.int .i64 x.d,.int .i64 x.a,.int .i64 x.b,.int .i64 x.imm,.int .i64 x.h] 109):=
   ⟨_,rfl,hbr.alloc hbr.size _,heap_alloc_newB wr _⟩
  obtain⟨qb,hqb⟩:∃q,wr.heap.size=q:=⟨_,rfl⟩
  rw[hw8];rw[hqb]at hq8⊢;have X8:Hid (RD w8 B rb mb (.slice (some ⟨g,0,none⟩) rows.length cap) rows):=X.out.below b8;have B8:Hid (Below w.heap.size w w8):=b8;have q0:=hp_cell hq8 0;have q1:=hp_cell hq8 1;have q5:=hp_cell hq8 5;simp only[List.getElem?_toArray,List.getElem?_cons_zero,List.getElem?_cons_succ]at q0 q1 q5;clear hw8 b8 hqb c0 c1 c2 c3 c4 c5 c6 hq8;obtain⟨lj,hlj⟩:∃b,(lb||jumpB x.op)=b:=⟨_,rfl⟩
  have HLJ:Hid ((lb||jumpB x.op)=lj):=hlj;clear hlj;go_cut [24](fun b wx=>wx=w8/\b=.bool lj)
  case first=>
   cases lb with
   |true=>
    have e:Hid (true=lj):=(by rw[<-HLJ.out];rfl:true=lj)
    go_wp2_with fail;go_meet
    exact⟨rfl,congrArg Value.bool e.out⟩
   |false=>
    have e:jumpB x.op=lj:=by rw[<-HLJ.out];rfl
    go_wp2_with(first|(go_at_call 38;refine(jumpI_any _ _).mono ?_;rintro e w2⟨rfl,hw2⟩;rw[hw2,e];clear hw2))
    go_meet
    exact⟨rfl,rfl⟩
  case rest=>
  obtain⟨hw,rfl⟩:=hcut
  rw[hw]
  clear hw
  cases lj with
  |false=>
   have HNO:Hid (lostR rows (lb,x)=false):=(by rw[HLK.out,HLJ.out];rfl:lostR rows (lb,x)=false)
   go_wp2_with fail
   go_roundw
   case rel=>
    refine⟨k+1,by omega,by go_num,B8.out,fun j hj=>?_⟩
    by_cases e:j=k
    ·subst e;rw[HR.out];exact HNO.out
    ·exact NO.out j (by omega)
   case measure=>simp[intOf];omega
  |true=>
   have m1:w8.cell? ⟨rb,1,none⟩=some (.map (some mb)):=hp_cell X8.out.R 1
   have m2:w8.cell? ⟨rb,2,none⟩=some (.int .i64 n):=(hp_cell X8.out.R 2).trans (by rw[HN.out];rfl)
   obtain⟨ok,hok⟩:∃b,(labOf rows x.imm).isSome=b:=⟨_,rfl⟩
   obtain⟨a,ha⟩:∃a,(labOf rows x.imm).getD 0=a:=⟨_,rfl⟩
   have hlk:∀w',Below w8.heap.size w8 w'->(Instr.lookup 64 (.map (some mb)) (.int .i64 x.imm) true).run Tryd.prog w'=.ok (.tuple #[.int .i64 (a:Int),.bool ok]) w':=fun w' hb=>by
    obtain⟨o,h1,h2⟩:=X8.out.M
    have:=(h2 w' ((hb.block mb (Array.getElem?_eq_some_iff.1 h1).1).trans h1) x.imm hwk).1
    rw[hok,ha]at this
    exact this
   have HLO:Hid (lostR rows (lb,x)=(!ok||(a==n))):=(by
    rw[HLK.out,HLJ.out,<-hok,<-ha]
    cases labOf rows x.imm<;>rfl:lostR rows (lb,x)=(!ok||(a==n)))
   have lrz:rb<w8.heap.size:=(Array.getElem?_eq_some_iff.1 X8.out.R).1
   have lqz:qb<w8.heap.size:=World.block_lt_of_cell? w8 ⟨qb,0,none⟩ q0
   have M1:∀w',Below w8.heap.size w8 w'->w'.cell? ⟨rb,1,none⟩=some (.map (some mb)):=fun w' hb=>(hb.cell (p:=⟨rb,1,none⟩) lrz).trans m1
   have Q5:∀w',Below w8.heap.size w8 w'->w'.cell? ⟨qb,5,none⟩=some (.int .i64 x.imm):=fun w' hb=>(hb.cell (p:=⟨qb,5,none⟩) lqz).trans q5
   clear hok ha m1 q5 q0 q1
   go_upto_region 5 with fail
   refine wp_region_held_drew (S:=fun w'=>Below w8.heap.size w8 w') (by kernel_rfl) (Below.refl _ _).drew (fun _=>?_)
   refine wpAnyH_tk 0 ?k1v rfl ?k1y ?k1r
   case k1y=>(intro w hSw;(try dsimp only at hSw);go_simp;try with_reducible rfl)
   try simp only[Act.put,List.getElem_toArray,List.getElem_cons_zero,List.setIfInBounds_toArray,List.set_cons_zero,List.set_cons_succ]
   refine wpAnyH_tk 1 ?k2v rfl ?k2y ?k2r
   case k2y=>(intro w hSw;(try dsimp only at hSw);go_simp;try with_reducible rfl)
   try simp only[Act.put,List.getElem_toArray,List.getElem_cons_zero,List.getElem_cons_succ,List.setIfInBounds_toArray,List.set_cons_zero,List.set_cons_succ]
   refine wpAnyH_tk 2 ?k3v rfl ?k3y ?k3r
   case k3y=>(intro w hSw;(try dsimp only at hSw);go_simp;try with_reducible rfl)
   try simp only[Act.put,List.getElem_toArray,List.getElem_cons_zero,List.getElem_cons_succ,List.setIfInBounds_toArray,List.set_cons_zero,List.set_cons_succ]
   refine wpAnyH_tk 3 ?k4v rfl ?k4y ?k4r
   case k4y=>(intro w hSw;(try dsimp only at hSw);go_simp;try with_reducible rfl)
   try simp only[Act.put,List.getElem_toArray,List.getElem_cons_zero,List.getElem_cons_succ,List.setIfInBounds_toArray,List.set_cons_zero,List.set_cons_succ]
   refine wpAnyH_tk 4 ?k5v rfl ?k5y ?k5r
   case k5y=>(intro w hSw;(try dsimp only at hSw);go_simp;try with_reducible rfl)
   try simp only[Act.put,List.getElem_toArray,List.getElem_cons_zero,List.getElem_cons_succ,List.setIfInBounds_toArray,List.set_cons_zero,List.set_cons_succ]
   refine wpAnyH_tk 5 ?k6v rfl ?k6y ?k6r
   case k6y=>(intro w hSw;(try dsimp only at hSw);go_simp;try with_reducible rfl)
   try simp only[Act.put,List.getElem_toArray,List.getElem_cons_zero,List.getElem_cons_succ,List.setIfInBounds_toArray,List.set_cons_zero,List.set_cons_succ]
   refine wpAnyH_tk 6 ?k7v rfl ?k7y ?k7r
   case k7y=>(intro w hSw;(try dsimp only at hSw);go_simp;try with_reducible rfl)
   try simp only[Act.put,List.getElem_toArray,List.getElem_cons_zero,List.getElem_cons_succ,List.setIfInBounds_toArray,List.set_cons_zero,List.set_cons_succ]
   refine wpAnyH_tk 7 ?k8v rfl ?k8y ?k8r
   case k8y=>(intro w hSw;(try dsimp only at hSw);go_simp;try with_reducible rfl)
   try simp only[Act.put,List.getElem_toArray,List.getElem_cons_zero,List.getElem_cons_succ,List.setIfInBounds_toArray,List.set_cons_zero,List.set_cons_succ]
   refine wpAnyH_tk 8 ?k9v rfl ?k9y ?k9r
   case k9y=>(intro w hSw;(try dsimp only at hSw);go_simp;try with_reducible rfl)
   try simp only[Act.put,List.getElem_toArray,List.getElem_cons_zero,List.getElem_cons_succ,List.setIfInBounds_toArray,List.set_cons_zero,List.set_cons_succ]
   refine wpAnyH_tk 9 ?k10v rfl ?k10y ?k10r
   case k10y=>(intro w hSw;(try dsimp only at hSw);go_simp;try with_reducible rfl)
   try simp only[Act.put,List.getElem_toArray,List.getElem_cons_zero,List.getElem_cons_succ,List.setIfInBounds_toArray,List.set_cons_zero,List.set_cons_succ]
   refine wpAnyH_tk 10 ?k11v rfl ?k11y ?k11r
   case k11y=>(intro w hSw;(try dsimp only at hSw);go_simp;try with_reducible rfl)
   try simp only[Act.put,List.getElem_toArray,List.getElem_cons_zero,List.getElem_cons_succ,List.setIfInBounds_toArray,List.set_cons_zero,List.set_cons_succ]
   refine wpAnyH_tk 11 ?k12v rfl ?k12y ?k12r
   case k12y=>(intro w hSw;(try dsimp only at hSw);go_simp;try with_reducible rfl)
   try simp only[Act.put,List.getElem_toArray,List.getElem_cons_zero,List.getElem_cons_succ,List.setIfInBounds_toArray,List.set_cons_zero,List.set_cons_succ]
   refine wpAnyH_tk 12 ?k13v rfl ?k13y ?k13r
   case k13y=>(intro w hSw;(try dsimp only at hSw);go_simp;try with_reducible rfl)
   try simp only[Act.put,List.getElem_toArray,List.getElem_cons_zero,List.getElem_cons_succ,List.setIfInBounds_toArray,List.set_cons_zero,List.set_cons_succ]
   refine wpAnyH_done (by kernel_rfl) ?_ _
   clear M1 Q5 hlk
   cases ok with
   |false=>
    have HL:Hid (lostI rows=(k:Int)+1):=lost_first hlt NO.out (by rw[HR.out,HLO.out];rfl)
    have hw1:IntKind.i64.wrap ((k:Int)+1)=(k:Int)+1:=i64_idR (by omega) (by omega)
    go_wp2_with fail
    go_ret
    exact⟨by rw[HL.out];rfl,B8.out.drew⟩
   |true=>
    by_cases han:a=n
    ·have e1:((a:Int)==n)=true:=by rw[han];simp
     have HL:Hid (lostI rows=(k:Int)+1):=lost_first hlt NO.out (by rw[HR.out,HLO.out,han];simp)
     have hw1:IntKind.i64.wrap ((k:Int)+1)=(k:Int)+1:=i64_idR (by omega) (by omega)
     clear han
     go_wp2_with fail
     go_ret
     exact⟨by rw[HL.out];rfl,B8.out.drew⟩
    ·have e1:((a:Int)==n)=false:=by rw[beq_eq_false_iff_ne];omega
     have HNO:Hid (lostR rows (lb,x)=false):=(by rw[HLO.out];simp[han]:lostR rows (lb,x)=false)
     clear han
     go_wp2_with fail
     go_roundw
     case rel=>
      refine⟨k+1,by omega,by go_num,B8.out.drew,fun j hj=>?_⟩
      by_cases e:j=k
      ·subst e;rw[HR.out];exact HNO.out
      ·exact NO.out j (by omega)
     case measure=>simp[intOf];omega
end Go.Proofs.YtdbhgaegblclaaaDoor
