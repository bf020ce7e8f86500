import Derived.Test.YtiphbmhoifggiaaGreatDoorPsSpec
import Derived.Test.YtiphbmhoifggiaaGreatDoorPsLay
import Derived.Test.YtiphbmhoifggiaaGreatDoorAsmNew
import Derived.Test.YtiphbmhoifggiaaGreatDoorOfRegT
import Derived.Deep.DeepCutAuto
import Derived.Lib.BufferKept
set_option maxHeartbeats 8000000
set_option maxRecDepth 20000
namespace Go.Proofs.YtiphbmhoifggiaaGreatDoor
open Go.RowKit
structure PW(pb sb:Nat)(v:Value)(t:List UInt8)(u:World):Prop where
 C:u.cell? ⟨pb,0,none⟩=some v
 D:u.cell? ⟨pb,1,none⟩=some (.pointer (some ⟨sb,0,none⟩))
 lt:pb<u.heap.size
 F:∀i,u.frozen? ⟨pb,i,none⟩=false
 O:u.ownsRow (pb+1) 5 1 v t.length (Lib.byteCells t)
structure PF(pb:Nat)(u u':World):Prop where
 b:Below pb u u'
 k:Lib.OthersKept 5 (some pb) u u'
theorem PF.refl(pb:Nat)(u:World):PF pb u u:=⟨Below.refl _ _,Lib.OthersKept.refl _ _ _⟩
theorem PF.trans{pb:Nat}{u v w:World}(h:PF pb u v)(g:PF pb v w):PF pb u w:=⟨h.b.trans g.b,h.k.trans g.k⟩
theorem PF.of_below{pb:Nat}{u v:World}(h:Below u.heap.size u v)(hp:pb<=u.heap.size):PF pb u v:=⟨h.mono hp,kept_below h⟩
theorem PW.below{pb sb:Nat}{v:Value}{t:List UInt8}{u u':World}(h:PW pb sb v t u)(b:Below u.heap.size u u'):PW pb sb v t u':=
 ⟨(b.cell (p:=⟨pb,0,none⟩) h.lt).trans h.C,(b.cell (p:=⟨pb,1,none⟩) h.lt).trans h.D,Nat.lt_of_lt_of_le h.lt b.size,fun i=>(b.frozen (p:=⟨pb,i,none⟩) h.lt).trans (h.F i),row_belowU h.O b⟩
theorem PF.cl{pb:Nat}{u v:World}(h:PF pb u v){b:Nat}{cs:Array Value}{t:TypeId}(hc:u.heap[b]?=some (.cells cs t))(hb:b≠pb)(ht:t≠5):v.heap[b]?=some (.cells cs t):=
 h.k b _ hc (fun e=>hb (Option.some.inj e)) (fun _ _ e=>ht (Obj.cells.inj e).2.1)
theorem heap_new(w:World)(o:Obj):(w.alloc o).heap[w.heap.size]?=some o:=heap_alloc_newB w o
theorem info_u8b:∃i,Tryz.prog.info? 5=some i/\i.zero=some (.int .u8 0)/\i.size=1/\i.bytes=1:=by
 have:=info_u8;rcases hh:Tryz.prog.info? 5 with _|i
 ·rw[hh]at this;simp at this
 ·rw[hh]at this;simp at this;exact⟨i,rfl,this⟩
theorem wpAnyL_appendS{P:Program}{md:Region.Mode}{ops:Array Oper}{Q:Exit->Act->World->Prop}{T:World->Prop}{s' fuel i:Nat}{listed:Array Bool}{a:Act}{w w':World}{o:Oper}(s x:Operand){ts:Array TypeId}{v u v':Value}(ho:ops[i]?=some o)(hr:Region.ready md ops listed=[i])(hw:Region.wanted o (yielded ops a.tmps)=true)
 (hop:o.op=.call {callee:=.builtin .append,args:=#[s,x],argTypes:=ts})(hs:a.eval s=v)(hx:a.eval x=u)(hrun:(Builtin.append_ ts o.type #[v,u]).run P w=.ok v' w')(hT:T w')(h:T w'->wpAnyL P md ops Q T s' fuel (listed.setIfInBounds i true) (a.put o.dst v') w'):wpAnyL P md ops Q T s' (fuel+1) listed a w:=
 wpAnyL_call ho hr (fun K' hK=>by
  rw[if_pos hw];unfold Oper.wp execOp;simp only[hop,resolve,invoke,builtin,Sem.run_bind,Sem.run_pure,Result.andThen_ok,List.map_toArray,List.map_cons,List.map_nil,hs,hx,hrun];exact hK _ _ hT h)
def lnT(xs:List ByteArray):List UInt8:=Lib.join (xs.map (·.data.toList)) [32]++[10]
theorem PW.grown{pb sb:Nat}{v v':Value}{t x:List UInt8}{u u5:World}{n:Nat}(h:PW pb sb v t u)(hg:u.grownBy u5 v.ownBlock)(ho:u5.ownsRow (pb+1) 5 1 v' n (Lib.byteCells (t++x))):PW pb sb v' (t++x) (u5.setCell ⟨pb,0,none⟩ v')/\PF pb u (u5.setCell ⟨pb,0,none⟩ v')/\u5.cell? ⟨pb,0,none⟩=some v/\u5.frozen? ⟨pb,0,none⟩=false:=by
 have NL:v.ownBlock≠some pb:=fun e=>by have:=(h.O.lt _ e).1;omega
 have bl:=hg.block pb h.lt (fun e=>NL e.symm);have hc:∀i,u5.cell? ⟨pb,i,none⟩=u.cell? ⟨pb,i,none⟩:=fun i=>World.cell?_of_block (a:=⟨pb,i,none⟩) bl
 have hf:∀i,u5.frozen? ⟨pb,i,none⟩=u.frozen? ⟨pb,i,none⟩:=fun i=>World.frozen?_of_block (a:=⟨pb,i,none⟩) bl
 have hn:n=(t++x).length:=by have:=ho.1;rw[Lib.byteCells_length]at this;omega
 subst hn;refine⟨⟨by simp[go_sem,hc,h.C],by simp[go_sem,hc,h.D],by simpa using Nat.lt_of_lt_of_le h.lt hg.size,fun i=>by simpa using(hf i).trans (h.F i),ownsRow_setCell_below ho (by show pb<_;omega) _⟩,⟨?_,?_⟩,(hc 0).trans h.C,(hf 0).trans (h.F 0)⟩
 ·have q:=(Below.refl pb u).grown hg (Nat.le_of_lt h.lt) (fun k hk=>by have:=(h.O.lt k hk).1;omega)
  exact⟨q.os,q.tape,q.output,by simpa using q.size,fun k hk=>(Below.heap_setCell u5 ⟨pb,0,none⟩ v' k (by show k≠pb;omega)).trans (q.block k hk)⟩
 ·exact(kept_row (b:=some pb) h.O hg (Lib.OthersKept.refl _ _ _)).setCell ⟨pb,0,none⟩ rfl v'
theorem addLine_any(pb sb:Nat)(v:Value)(t:List UInt8)(bk c:Nat)(xs:List ByteArray)(w:World)(h:PW pb sb v t w)(hc:∀(j:Nat)x,xs[j]?=some x->w.cell? ⟨bk,j,none⟩=some (.string x))(hbk:bk<w.heap.size)(hN:xs.length<=100)(hcap:xs.length<=c)(hl:(lnT xs).length<=1000000)(ht:t.length<=100000000):
 Calls Tryz.prog 27 #[.pointer (some ⟨pb,0,none⟩),.slice (some ⟨bk,0,none⟩) xs.length c] w fun e w'=>e=.returned (.tuple #[])/\∃v',PW pb sb v' (t++lnT xs) w'/\PF pb w w':=by
 obtain⟨ao,kl,cl,hv⟩:=row_slice h.O
 subst hv
 have H:Hid (PW pb sb (.slice ao kl cl) t w):=h
 have lt:=h.lt
 have HC:Hid (∀(j:Nat)x,xs[j]?=some x->w.cell? ⟨bk,j,none⟩=some (.string x)):=hc
 obtain⟨iS,i1,i2,i3,i4⟩:=info_u8b
 have HI:Hid (_/\_/\_/\_):=⟨i1,i2,i3,i4⟩
 obtain⟨js,hjs⟩:∃x,(⟨(Lib.join (xs.map (·.data.toList)) [32]).toArray⟩:ByteArray)=x:=⟨_,rfl⟩
 have HJS:Hid (js.data.toList=Lib.join (xs.map (·.data.toList)) [32]):=(by rw[<-hjs]:js.data.toList=Lib.join (xs.map (·.data.toList)) [32])
 have jz:js.size<=1000000:=by
  have h1:js.size=js.data.toList.length:=rfl
  unfold lnT at hl
  rw[List.length_append,<-HJS.out]at hl
  omega
 have HLT:Hid (t++js.data.toList++[10]=t++lnT xs):=(by unfold lnT;rw[HJS.out,List.append_assoc]:t++js.data.toList++[10]=t++lnT xs)
 have HTL:Hid (t.length<=100000000):=ht
 have HJ2:Hid ((⟨(Lib.join (xs.map (·.data.toList)) [32]).toArray⟩:ByteArray)=js):=hjs
 clear h hc i1 i2 i3 i4 hl ht hjs
 go_enter Tryz.func27,Tryz.ntmps27
 go_upto_region 0 with fail
 have r0:∀w':World,w'.cell? ⟨pb,0,none⟩=some (.slice ao kl cl)->w'.cell? ⟨pb,0,none⟩=some (.slice ao kl cl):=fun w' h=>h
 have TD:w.drew.cell? ⟨pb,0,none⟩=some (.slice ao kl cl):=H.out.C
 have bd:Below w.heap.size w w.drew:=(Below.refl _ _).drew
 refine wp_region_L (T:=fun w'=>w'.cell? ⟨pb,0,none⟩=some (.slice ao kl cl)) (s:=10) (by kernel_rfl) TD (fun hHeld=>?_)
 generalize w.drew=t0 at hHeld bd⊢
 have BD:Hid (Below w.heap.size w t0):=bd
 clear TD bd
 refine wpAnyL_tk 0 ?k1v rfl ?k1y ?k1r
 case k1y=>(intro w hSw;(try dsimp only at hSw);go_simp;try with_reducible rfl)
 try simp only[Act.put,List.getElem_toArray,List.getElem_cons_zero,List.setIfInBounds_toArray,List.set_cons_zero,List.set_cons_succ]
 refine wpAnyL_tk 1 ?k2v rfl ?k2y ?k2r
 case k2y=>(intro w hSw;(try dsimp only at hSw);go_simp;try with_reducible rfl)
 try simp only[Act.put,List.getElem_toArray,List.getElem_cons_zero,List.getElem_cons_succ,List.setIfInBounds_toArray,List.set_cons_zero,List.set_cons_succ]
 refine wpAnyL_tk 2 ?k3v rfl ?k3y ?k3r
 case k3y=>(intro w hSw;(try dsimp only at hSw);go_simp;try with_reducible rfl)
 try simp only[Act.put,List.getElem_toArray,List.getElem_cons_zero,List.getElem_cons_succ,List.setIfInBounds_toArray,List.set_cons_zero,List.set_cons_succ]
 refine wpAnyL_tk 3 ?k4v rfl ?k4y ?k4r
 case k4y=>(intro w hSw;(try dsimp only at hSw);go_simp;try with_reducible rfl)
 try simp only[Act.put,List.getElem_toArray,List.getElem_cons_zero,List.getElem_cons_succ,List.setIfInBounds_toArray,List.set_cons_zero,List.set_cons_succ]
 refine wpAnyL_tk 4 ?k5v rfl ?k5y ?k5r
 case k5y=>(intro w hSw;(try dsimp only at hSw);go_simp;try with_reducible rfl)
 try simp only[Act.put,List.getElem_toArray,List.getElem_cons_zero,List.getElem_cons_succ,List.setIfInBounds_toArray,List.set_cons_zero,List.set_cons_succ]
 refine wpAnyL_tk 5 ?k6v rfl ?k6y ?k6r
 case k6y=>(intro w hSw;(try dsimp only at hSw);go_simp;try with_reducible rfl)
 try simp only[Act.put,List.getElem_toArray,List.getElem_cons_zero,List.getElem_cons_succ,List.setIfInBounds_toArray,List.set_cons_zero,List.set_cons_succ]
 refine wpAnyL_call (i:=6) rfl (by kernel_rfl) (fun KK hK=>?_)
 go_simp
 refine(stringsJoin_any bk 0 c xs ⟨#[32]⟩ t0 (fun j x hj=>by rw[Nat.zero_add];exact(BD.out.cell (p:=⟨bk,j,none⟩) hbk).trans (HC.out j x hj)) (Nat.lt_of_lt_of_le hbk BD.out.size) (by omega) hcap (by have h1:js.size=js.data.toList.length:=rfl;rw[HJS.out]at h1;show(Lib.join (xs.map (·.data.toList)) [32]).length<=_;omega)).mono ?_
 rintro e t1⟨rfl,hb1⟩
 have B1:Hid (Below w.heap.size w t1):=BD.out.trans (hb1.mono BD.out.size)
 have P1:Hid (PW pb sb (.slice ao kl cl) t t1):=H.out.below B1.out
 show KK _ _
 rw[show(⟨(Lib.join (xs.map (·.data.toList)) (⟨#[32]⟩:ByteArray).data.toList).toArray⟩:ByteArray)=js from HJ2.out]
 refine hK.out _ _ P1.out.C (fun hHeld1=>?_)
 clear hK KK hb1 BD
 try simp only[Act.put,List.getElem_toArray,List.getElem_cons_zero,List.getElem_cons_succ,List.setIfInBounds_toArray,List.set_cons_zero,List.set_cons_succ]
 obtain⟨v1,w5,hrun,hown,hgrow,_⟩:=Lib.run_append_own_string (P:=Tryz.prog) t1 (pb+1) 30 9 30 5 iS Tryz.underlying30 Tryz.underlying9 HI.out.1 HI.out.2.1 HI.out.2.2.1 HI.out.2.2.2 (.slice ao kl cl) t.length (Lib.byteCells t) P1.out.O js (by have:=HTL.out;unfold maxLen;omega) (by have:=HTL.out;omega) P1.out.lt
 rw[str_bc,app_len]at hown
 obtain⟨n1,n2,n3,n4⟩:=P1.out.grown hgrow hown
 obtain⟨ao5,k5,c5,hv5⟩:=row_slice hown
 subst hv5
 have N1:Hid (PW pb sb (.slice ao5 k5 c5) (t++js.data.toList) (w5.setCell ⟨pb,0,none⟩ (.slice ao5 k5 c5))):=n1
 have F1:Hid (PF pb w (w5.setCell ⟨pb,0,none⟩ (.slice ao5 k5 c5))):=(PF.of_below B1.out (Nat.le_of_lt lt)).trans n2
 refine wpAnyL_appendS (.tmp 8) (.tmp 10) (i:=7) rfl (by kernel_rfl) (by kernel_rfl) rfl rfl rfl hrun n3 (fun hHeld5=>?_)
 try simp only[Act.put,List.getElem_toArray,List.getElem_cons_zero,List.getElem_cons_succ,List.setIfInBounds_toArray,List.set_cons_zero,List.set_cons_succ]
 refine wpAnyL_tkT 8 ?k7v rfl ?k7y ?k7r
 case k7y=>(intro w hSw;(try dsimp only at hSw);go_simp;try with_reducible rfl)
 try simp only[Act.put,List.getElem_toArray,List.getElem_cons_zero,List.getElem_cons_succ,List.setIfInBounds_toArray,List.set_cons_zero,List.set_cons_succ]
 refine wpAnyL_tk 9 ?k8v rfl ?k8y ?k8r
 case k8y=>(intro w hSw;(try dsimp only at hSw);go_simp;try with_reducible rfl)
 try simp only[Act.put,List.getElem_toArray,List.getElem_cons_zero,List.getElem_cons_succ,List.setIfInBounds_toArray,List.set_cons_zero,List.set_cons_succ]
 clear n1 n2 hown hgrow hrun hHeld hHeld1 hHeld5 r0 P1 B1
 refine wpAnyL_store rfl (by kernel_rfl) (by kernel_rfl) (fun KK hK=>?_)
 go_simp
 refine hK.out _ _ ?_
 clear hK KK n3 n4
 generalize w5.setCell ⟨pb,0,none⟩ (.slice ao5 k5 c5)=u at N1 F1⊢
 have q0:=N1.out.C
 have lu:=N1.out.lt
 have OA:Hid ((u.alloc (.cells #[.int .u8 10] 5)).ownsRow (pb+1) 5 1 (.slice ao5 k5 c5) (t++js.data.toList).length (Lib.byteCells (t++js.data.toList))):=(N1.out.below ((Below.refl _ _).alloc (Nat.le_refl _) _)).O
 have hcl:=cell_one_new u (.int .u8 10) 5
 have HCL:Hid (∀j x,[Value.int .u8 10][j]?=some x->(u.alloc (.cells #[.int .u8 10] 5)).cell? ((⟨u.heap.size,0,none⟩:Addr).add j)=some x):=hcl
 have hBa:pb+1<=(u.alloc (.cells #[.int .u8 10] 5)).heap.size:=by simp;omega
 have HLN:Hid ((t++js.data.toList).length<=200000000):=(by have h1:js.size=js.data.toList.length:=rfl;have:=HTL.out;rw[List.length_append];omega:(t++js.data.toList).length<=200000000)
 clear hcl
 go_wp2_with(first|(at_builtin;refine wpList_append_own_at _ rfl _ _ 30 rfl (pb+1) 5 iS _ 1 1 Tryz.underlying30 HI.out.1 HI.out.2.1 HI.out.2.2.1 HI.out.2.2.2 rfl (by decide) (.slice ao5 k5 c5) (t++js.data.toList).length _ rfl OA.out ⟨u.heap.size,0,none⟩ 1 1 [.int .u8 10] rfl rfl HCL.out ?c2 ?c3 ?c4 hBa ?_))
 case c2=>simp[Value.oneCell']
 case c3=>have:=HLN.out;unfold maxLen;omega
 case c4=>have:=HLN.out;omega
 intro v' w4 hown4 hgrow _ _
 have PA:Hid (PW pb sb (.slice ao5 k5 c5) (t++js.data.toList) (u.alloc (.cells #[.int .u8 10] 5))):=N1.out.below ((Below.refl _ _).alloc (Nat.le_refl _) _)
 rw[show[Value.int .u8 10]=Lib.byteCells [10]from rfl,app_len]at hown4
 obtain⟨n1,n2,n3,n4⟩:=PA.out.grown hgrow hown4
 obtain⟨ao6,k6,c6,hv6⟩:=row_slice hown4
 subst hv6
 have N2:Hid (PW pb sb (.slice ao6 k6 c6) (t++lnT xs) (w4.setCell ⟨pb,0,none⟩ (.slice ao6 k6 c6))):=(by rw[HLT.out]at n1;exact n1:PW pb sb (.slice ao6 k6 c6) (t++lnT xs) (w4.setCell ⟨pb,0,none⟩ (.slice ao6 k6 c6)))
 have F2:Hid (PF pb w (w4.setCell ⟨pb,0,none⟩ (.slice ao6 k6 c6))):=(F1.out.trans (PF.of_below ((Below.refl _ _).alloc (Nat.le_refl _) _) (Nat.le_of_lt lu))).trans n2
 clear n1 n2 hown4 hgrow
 go_wp2
 go_end0
 exact⟨rfl,_,N2.out,F2.out⟩
theorem wordAt_any(s:ByteArray)(l:List (List UInt8))(k:Nat)(w:World)(hs:s.size<1000)(ha:(s.data.toList.all fun b=>decide (b.toNat<128))=true)(hf:Lib.fields s.data.toList=l)(hk:k<l.length)(_hl:l.length<=100)(ht:Lib.TabIs Tryz.prog w "strings.asciiSpace" .u8 Lib.asciiSpaceTab):
 Calls Tryz.prog 28 #[.string s,.int .i64 (k:Int)] w fun e w'=>e=.returned (.string (bs (l.getD k [])))/\Below w.heap.size w w':=by
 have HT:Hid (Lib.TabIs Tryz.prog w "strings.asciiSpace" .u8 Lib.asciiSpaceTab):=ht;have HA:Hid (∀(j:Nat)b,s.data.toList[j]?=some b->b.toNat<128):=(fun j b h=>by have:=List.all_eq_true.1 ha b (List.mem_of_getElem? h);simpa using this:∀(j:Nat)b,s.data.toList[j]?=some b->b.toNat<128)
 have HF:Hid (Lib.fields s.data.toList=l):=hf;obtain⟨x,hx⟩:∃x,bs (l.getD k [])=x:=⟨_,rfl⟩
 rw[hx];have HX:Hid (bs (l.getD k [])=x):=hx;clear ht ha hf hx;go_enter Tryz.func28,Tryz.ntmps28;go_wp2_with fail;refine(stringsFields_any s w (by omega) HA.out HT.out).mono ?_;rintro e w1⟨rfl,hw1⟩;rw[HF.out]at hw1⊢;have hk':(k:Int)<(l.length:Int):=by omega
 have c1:w1.cell? ⟨w.heap.size,k,none⟩=some (.string x):=by
  rw[hw1,heap_cell (heap_new w _) k,<-HX.out];simp[bs,hk]
 have hb:Below w.heap.size w w1:=by rw[hw1];exact(Below.refl _ _).alloc (Nat.le_refl _) _
 clear hw1;go_wp2_with fail;go_ret;exact⟨rfl,hb⟩
theorem cond_word(c:Int)(w:World)(h1:1<=c)(h2:c<=4)(ht:Lib.TabIs Tryz.prog w "strings.asciiSpace" .u8 Lib.asciiSpaceTab):
 Calls Tryz.prog 28 #[.string ⟨#[122,32,110,122,32,99,32,110,99]⟩,.int .i64 (c-1)] w fun e w'=>e=.returned (.string (bs (cndL c)))/\Below w.heap.size w w':=by
 have h:=fun k hk=>wordAt_any ⟨#[122,32,110,122,32,99,32,110,99]⟩ [[122],[110,122],[99],[110,99]] k w (by decide) (by decide) (by kernel_rfl) hk (by decide) ht
 obtain rfl|rfl|rfl|rfl:c=1∨c=2∨c=3∨c=4:=by omega
 ·exact h 0 (by decide)
 ·exact h 1 (by decide)
 ·exact h 2 (by decide)
 ·exact h 3 (by decide)
theorem dial_word(d:Int)(w:World)(h:d=0∨d=1)(ht:Lib.TabIs Tryz.prog w "strings.asciiSpace" .u8 Lib.asciiSpaceTab):
 Calls Tryz.prog 28 #[.string ⟨#[103,97,115,32,109,97,115,109]⟩,.int .i64 d] w fun e w'=>e=.returned (.string (bs (if d=1 then[109,97,115,109]else[103,97,115])))/\Below w.heap.size w w':=by
 have h':=fun k hk=>wordAt_any ⟨#[103,97,115,32,109,97,115,109]⟩ [[103,97,115],[109,97,115,109]] k w (by decide) (by decide) (by kernel_rfl) hk (by decide) ht
 rcases h with rfl|rfl
 ·exact h' 0 (by decide)
 ·exact h' 1 (by decide)
theorem wordOf_any(s:ByteArray)(l:List (List UInt8))(b:Bool)(w:World)(hs:s.size<1000)(ha:(s.data.toList.all fun b=>decide (b.toNat<128))=true)(hf:Lib.fields s.data.toList=l)(hl:l.length=2)(ht:Lib.TabIs Tryz.prog w "strings.asciiSpace" .u8 Lib.asciiSpaceTab):
 Calls Tryz.prog 30 #[.string s,.bool b] w fun e w'=>e=.returned (.string (bs (l.getD (if b=true then 1 else 0) [])))/\Below w.heap.size w w':=by
 have HH:Hid (∀k,k<l.length->Calls Tryz.prog 28 #[.string s,.int .i64 (k:Int)] w fun e w'=>e=.returned (.string (bs (l.getD k [])))/\Below w.heap.size w w'):=fun k hk=>wordAt_any s l k w hs ha hf hk (by omega) ht
 clear ht ha hf;cases b;all_goals
  go_enter Tryz.func30,Tryz.ntmps30;go_wp2_with fail
 ·refine(HH.out 0 (by omega)).mono ?_
  rintro e w1⟨rfl,hb⟩;go_wp2_with fail;go_ret;exact⟨rfl,hb⟩
 ·refine(HH.out 1 (by omega)).mono ?_
  rintro e w1⟨rfl,hb⟩;go_wp2_with fail;go_ret;exact⟨rfl,hb⟩
theorem level_word(b:Bool)(w:World)(ht:Lib.TabIs Tryz.prog w "strings.asciiSpace" .u8 Lib.asciiSpaceTab):
 Calls Tryz.prog 30 #[.string ⟨#[112,117,98,108,105,99,32,115,101,99,114,101,116]⟩,.bool b] w fun e w'=>e=.returned (.string (bs (wordT b)))/\Below w.heap.size w w':=by
 have h:=wordOf_any ⟨#[112,117,98,108,105,99,32,115,101,99,114,101,116]⟩ [[112,117,98,108,105,99],[115,101,99,114,101,116]] b w (by decide) (by decide) (by kernel_rfl) rfl ht;cases b<;>exact h
theorem mode_word(b:Bool)(w:World)(ht:Lib.TabIs Tryz.prog w "strings.asciiSpace" .u8 Lib.asciiSpaceTab):
 Calls Tryz.prog 30 #[.string ⟨#[114,101,97,100,32,119,114,105,116,101]⟩,.bool b] w fun e w'=>e=.returned (.string (bs (if b=true then[119,114,105,116,101]else[114,101,97,100])))/\Below w.heap.size w w':=by
 have h:=wordOf_any ⟨#[114,101,97,100,32,119,114,105,116,101]⟩ [[114,101,97,100],[119,114,105,116,101]] b w (by decide) (by decide) (by kernel_rfl) rfl ht;cases b<;>exact h
theorem digitsOf_any(x:Int)(h:x.natAbs<10000000000000000)(w:World)(ht:Lib.TabIs Tryz.prog w "internal/strconv.uint64pow10" .u64 Lib.pow10Tab):
 Calls Tryz.prog 29 #[.int .i64 x] w fun e w'=>e=.returned (.string (bs (Lib.itoa x)))/\Below w.heap.size w w':=by
 have HT:Hid (Lib.TabIs Tryz.prog w "internal/strconv.uint64pow10" .u64 Lib.pow10Tab):=ht;clear ht;go_enter Tryz.func29,Tryz.ntmps29;go_wp2_with fail;refine(formatInt_any x (by omega) (by omega) w HT.out).mono ?_;rintro e w1⟨rfl,k,os,hw1⟩;have hb:Below w.heap.size w w1:=by rw[hw1];exact Lib.below_grow _ _ (Nat.le_refl _) _ _
 clear hw1;go_wp2_with fail;go_ret;exact⟨rfl,hb⟩
theorem fields_new(w:World)(xs:List ByteArray):∀(j:Nat)x,xs[j]?=some x->(w.alloc (.cells (xs.map Value.string).toArray 9)).cell? ⟨w.heap.size,j,none⟩=some (.string x):=fun j x hx=>by
 rw[heap_cell (heap_new w _) j];simp[hx]
theorem bs_d(l:List UInt8):(bs l).data.toList=l:=bs_data l
theorem lnT1(a:List UInt8):lnT [bs a]=a++[10]:=by simp[lnT,Lib.join,List.intercalate,bs_d]
theorem lnT2(a b:List UInt8):lnT [bs a,bs b]=a++[32]++b++[10]:=by simp[lnT,Lib.join,List.intercalate,bs_d]
theorem lnT4(a b c d:List UInt8):lnT [bs a,bs b,bs c,bs d]=a++[32]++b++[32]++c++[32]++d++[10]:=by simp[lnT,Lib.join,List.intercalate,bs_d]
theorem lnT6(a b c d e f:List UInt8):lnT [bs a,bs b,bs c,bs d,bs e,bs f]=a++[32]++b++[32]++c++[32]++d++[32]++e++[32]++f++[10]:=by simp[lnT,Lib.join,List.intercalate,bs_d]
end Go.Proofs.YtiphbmhoifggiaaGreatDoor
