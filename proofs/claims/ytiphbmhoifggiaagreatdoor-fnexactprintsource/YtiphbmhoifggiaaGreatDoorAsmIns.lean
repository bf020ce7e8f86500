import Derived.Test.YtiphbmhoifggiaaGreatDoorOfAsmTab
import Derived.Lib.AppendStr
set_option maxHeartbeats 1600000
namespace Go.Proofs.YtiphbmhoifggiaaGreatDoor
open Go.RowKit
theorem readyH_appendS{P:Program}{md:Region.Mode}{ops:Array Oper}{Q:Exit->Act->World->Prop}{S:World->Prop}{fuel i:Nat}{listed:Array Bool}{a:Act}{w w':World}{o:Oper}(s x:Operand){ts:Array TypeId}{v u v':Value}(ho:ops[i]?=some o)(hw:Region.wanted o (yielded ops a.tmps)=true)
 (hop:o.op=.call {callee:=.builtin .append,args:=#[s,x],argTypes:=ts})(hs:a.eval s=v)(hx:a.eval x=u)(hr:(Builtin.append_ ts o.type #[v,u]).run P w=.ok v' w')(hS:S w')(h:S w'->wpAnyH P md ops Q S fuel (listed.setIfInBounds i true) (a.put o.dst v') w'):AllReadyH P md ops Q S fuel listed a w [i]:=
 AllReadyH.cons ho (fun K' hK=>by
  rw[if_pos hw];unfold Oper.wp execOp;simp only[hop,resolve,invoke,builtin,Sem.run_bind,Sem.run_pure,Result.andThen_ok,List.map_toArray,List.map_cons,List.map_nil,hs,hx,hr];exact hK _ _ hS h) AllReadyH.nil
theorem form_in(d op:Int)(hd:d=0∨d=1)(h1:1<=op)(h2:op<=34):(formL.any fun x=>x.1==d&&x.2.1==shpI op)=true:=by
 obtain rfl|rfl|rfl|rfl|rfl|rfl|rfl|rfl|rfl|rfl|rfl|rfl|rfl|rfl|rfl|rfl|rfl|rfl|rfl|rfl|rfl|rfl|rfl|rfl|rfl|rfl|rfl|rfl|rfl|rfl|rfl|rfl|rfl|rfl:op=1∨op=2∨op=3∨op=4∨op=5∨op=6∨op=7∨op=8∨op=9∨op=10∨op=11∨op=12∨op=13∨op=14∨op=15∨op=16∨op=17∨op=18∨op=19∨op=20∨op=21∨op=22∨op=23∨op=24∨op=25∨op=26∨op=27∨op=28∨op=29∨op=30∨op=31∨op=32∨op=33∨op=34:=by omega
 all_goals(rcases hd with rfl|rfl<;>rfl)
theorem nmt_cell(op:Int)(h1:1<=op)(h2:op<=34):((nmT.tail.map Value.string).toArray)[(op-1).toNat]?=some (.string (nmS op)):=by
 obtain rfl|rfl|rfl|rfl|rfl|rfl|rfl|rfl|rfl|rfl|rfl|rfl|rfl|rfl|rfl|rfl|rfl|rfl|rfl|rfl|rfl|rfl|rfl|rfl|rfl|rfl|rfl|rfl|rfl|rfl|rfl|rfl|rfl|rfl:op=1∨op=2∨op=3∨op=4∨op=5∨op=6∨op=7∨op=8∨op=9∨op=10∨op=11∨op=12∨op=13∨op=14∨op=15∨op=16∨op=17∨op=18∨op=19∨op=20∨op=21∨op=22∨op=23∨op=24∨op=25∨op=26∨op=27∨op=28∨op=29∨op=30∨op=31∨op=32∨op=33∨op=34:=by omega
 all_goals rfl
theorem str_bc(s:ByteArray):Lib.strCells s=Lib.byteCells s.data.toList:=rfl
theorem rend_base(f:UInt8->ByteArray)(l:List UInt8):∀o:ByteArray,(rendS f o l).data.toList=o.data.toList++(rendS f ⟨#[]⟩ l).data.toList:=by
 induction l with
 |nil=>intro o;simp[rendS]
 |cons c t ih=>
  intro o;have h1:=ih (o++f c);have h2:=ih (⟨#[]⟩++f c);show(rendS f (o++f c) t).data.toList=o.data.toList++(rendS f (⟨#[]⟩++f c) t).data.toList;rw[h1,h2];simp
structure IA(sb nb ob mb px:Nat)(d op dd a b i h:Int)(w:World):Prop where
 S:w.heap[sb]?=some (.cells #[.int .i64 d,.slice (some ⟨nb,0,none⟩) 34 34,.map (some ob),.map (some mb)] 114)
 N:w.heap[nb]?=some (.cells (nmT.tail.map Value.string).toArray 9)
 X:w.heap[px]?=some (.cells #[.int .i64 op,.int .i64 dd,.int .i64 a,.int .i64 b,.int .i64 i,.int .i64 h] 97)
theorem IA.drew{sb nb ob mb px:Nat}{d op dd a b i h:Int}{w:World}(t:IA sb nb ob mb px d op dd a b i h w):IA sb nb ob mb px d op dd a b i h w.drew:=⟨t.S,t.N,t.X⟩
theorem addIns_kept(B n:Nat)(sv:Value)(l:List UInt8)(sb nb ob mb:Nat)(d op dd a b i h:Int)(w:World)(p:SC w sb nb ob mb d)(hd:d=0∨d=1)(h1:1<=op)(h2:op<=34)(hB:B<=w.heap.size)(ls:sb<B)(ln:nb<B)(lm:mb<B)(hown:w.ownsRow B 5 1 sv n (Lib.byteCells l))(hn:n<=90000000000000)
 (kd:dd.natAbs<1000001)(ka:a.natAbs<1000001)(kb:b.natAbs<1000001)(ki:i.natAbs<1000001)(kh:h.natAbs<1000001)(htab:Lib.TabBelow Tryz.prog B w "internal/strconv.uint64pow10" .u64 Lib.pow10Tab):
 Calls Tryz.prog 55 #[.pointer (some ⟨sb,0,none⟩),sv,.agg #[.int .i64 op,.int .i64 dd,.int .i64 a,.int .i64 b,.int .i64 i,.int .i64 h]] w fun e w'=>∃v' n',e=.returned v'/\w'.ownsRow B 5 1 v' n' (Lib.byteCells (l++(lineS d op dd a b i h++⟨#[10]⟩).data.toList))/\n'<=n+30000200/\Below B w w'/\Lib.OthersKept 5 none w w':=by
 have HN:Hid (n<=90000000000000):=hn
 have HK:Hid (dd.natAbs<1000001/\a.natAbs<1000001/\b.natAbs<1000001/\i.natAbs<1000001/\h.natAbs<1000001):=⟨kd,ka,kb,ki,kh⟩
 have HT:Hid (Lib.TabBelow Tryz.prog B w "internal/strconv.uint64pow10" .u64 Lib.pow10Tab):=htab
 have HOW:Hid (w.ownsRow B 5 1 sv n (Lib.byteCells l)):=hown
 have HP:Hid (SC w sb nb ob mb d):=p
 have HF:Hid ((formL.any fun x=>x.1==d&&x.2.1==shpI op)=true):=form_in d op hd h1 h2
 have HLS:Hid (lineI d op dd a b i h=lineS d op dd a b i h):=line_same d op dd a b i h h1 h2 hd
 have HNC:=nmt_cell op h1 h2
 have HNC':Hid (((nmT.tail.map Value.string).toArray)[(op-1).toNat]?=some (.string (nmS op))):=HNC
 have hnz:=nmS_size op
 obtain⟨iS,hi1,hi2,hi3,hi4⟩:∃i,Tryz.prog.info? 5=some i/\i.zero=some (.int .u8 0)/\i.size=1/\i.bytes=1:=by
  have:=info_u8
  rcases hh:Tryz.prog.info? 5 with _|i
  ·rw[hh]at this;simp at this
  ·rw[hh]at this;simp at this;exact⟨i,rfl,this⟩
 have HI:Hid (Tryz.prog.info? 5=some iS/\iS.zero=some (.int .u8 0)/\iS.size=1/\iS.bytes=1):=⟨hi1,hi2,hi3,hi4⟩
 clear hn kd ka kb ki kh htab hown p hd HNC hi1 hi2 hi3 hi4
 go_enter Tryz.func55,Tryz.ntmps55
 go_upto_region 1 with fail
 obtain⟨u,hu,hbu,hpu⟩:∃v,w.alloc (.cells #[.int .i64 op,.int .i64 dd,.int .i64 a,.int .i64 b,.int .i64 i,.int .i64 h] 97)=v/\Below w.heap.size w v/\v.heap[w.heap.size]?=some (.cells #[.int .i64 op,.int .i64 dd,.int .i64 a,.int .i64 b,.int .i64 i,.int .i64 h] 97):=⟨_,rfl,(Below.refl _ _).alloc (Nat.le_refl _) _,heap_alloc_newB w _⟩
 rw[hu]
 clear hu
 obtain⟨px,hpx⟩:∃q,w.heap.size=q:=⟨_,rfl⟩
 have OU:Hid (u.ownsRow B 5 1 sv n (Lib.byteCells l)):=row_belowB HOW.out hbu
 have hbB:Below B w u:=hbu.mono hB
 have SU:Hid (SC u sb nb ob mb d):=HP.out.below hbB ls ln lm
 have hBu:B<=u.heap.size:=Nat.le_trans hB hbu.size
 have KWU:Hid (Lib.OthersKept 5 none w u):=kept_below hbu
 rw[hpx]at hpu⊢
 clear hpx hbu
 have TU:IA sb nb ob mb px d op dd a b i h u:=⟨SU.out.S,SU.out.N,hpu⟩
 clear hpu
 have r1:∀w',IA sb nb ob mb px d op dd a b i h w'->w'.cell? ⟨sb,1,none⟩=some (.slice (some ⟨nb,0,none⟩) 34 34):=fun w' hh=>heap_cell hh.S 1
 have r2:∀w',IA sb nb ob mb px d op dd a b i h w'->w'.cell? ⟨nb,op.toNat-1,none⟩=some (.string (nmS op)):=fun w' hh=>(heap_cell hh.N _).trans (by rw[show op.toNat-1=(op-1).toNat by omega];exact HNC'.out)
 have x0:∀w',IA sb nb ob mb px d op dd a b i h w'->w'.cell? ⟨px,0,none⟩=some (.int .i64 op):=fun w' hh=>heap_cell hh.X 0
 have x1:∀w',IA sb nb ob mb px d op dd a b i h w'->w'.cell? ⟨px,1,none⟩=some (.int .i64 dd):=fun w' hh=>heap_cell hh.X 1
 have x2:∀w',IA sb nb ob mb px d op dd a b i h w'->w'.cell? ⟨px,2,none⟩=some (.int .i64 a):=fun w' hh=>heap_cell hh.X 2
 have x3:∀w',IA sb nb ob mb px d op dd a b i h w'->w'.cell? ⟨px,3,none⟩=some (.int .i64 b):=fun w' hh=>heap_cell hh.X 3
 have x4:∀w',IA sb nb ob mb px d op dd a b i h w'->w'.cell? ⟨px,4,none⟩=some (.int .i64 i):=fun w' hh=>heap_cell hh.X 4
 have x5:∀w',IA sb nb ob mb px d op dd a b i h w'->w'.cell? ⟨px,5,none⟩=some (.int .i64 h):=fun w' hh=>heap_cell hh.X 5
 have g0:0<=op-1:=by omega
 have g1:op-1<34:=by omega
 have g2:IntKind.i64.wrap (op-1)=op-1:=by rw[IntKind.wrap_i64];omega
 refine wp_region_held_drew (S:=fun w'=>IA sb nb ob mb px d op dd a b i h w') (by kernel_rfl) TU.drew (fun _=>?_)
 have TD:IA sb nb ob mb px d op dd a b i h u.drew:=TU.drew
 refine wpAnyH_tk 0 ?k1v rfl ?k1y ?k1r
 case k1y=>(intro w hSw;(try dsimp only at hSw);go_simp;try with_reducible rfl)
 try simp only[Act.put,List.getElem_toArray,List.getElem_cons_zero,List.setIfInBounds_toArray,List.set_cons_zero,List.set_cons_succ]
 refine wpAnyH_tk 1 ?k2v rfl ?k2y ?k2r
 case k2y=>(intro w hSw;(try dsimp only at hSw);go_simp;try with_reducible rfl)
 try simp only[Act.put,List.getElem_toArray,List.getElem_cons_zero,List.getElem_cons_succ,List.setIfInBounds_toArray,List.set_cons_zero,List.set_cons_succ]
 refine wpAnyH_tk 2 ?k3v rfl ?k3y ?k3r
 case k3y=>(intro w hSw;(try dsimp only at hSw);go_simp;try with_reducible rfl)
 try simp only[Act.put,List.getElem_toArray,List.getElem_cons_zero,List.getElem_cons_succ,List.setIfInBounds_toArray,List.set_cons_zero,List.set_cons_succ]
 refine wpAnyH_tk 3 ?k4v rfl ?k4y ?k4r
 case k4y=>(intro w hSw;(try dsimp only at hSw);go_simp;try with_reducible rfl)
 try simp only[Act.put,List.getElem_toArray,List.getElem_cons_zero,List.getElem_cons_succ,List.setIfInBounds_toArray,List.set_cons_zero,List.set_cons_succ]
 refine wpAnyH_tk 4 ?k5v rfl ?k5y ?k5r
 case k5y=>(intro w hSw;(try dsimp only at hSw);go_simp;try with_reducible rfl)
 try simp only[Act.put,List.getElem_toArray,List.getElem_cons_zero,List.getElem_cons_succ,List.setIfInBounds_toArray,List.set_cons_zero,List.set_cons_succ]
 refine wpAnyH_tk 5 ?k6v rfl ?k6y ?k6r
 case k6y=>(intro w hSw;(try dsimp only at hSw);go_simp;try with_reducible rfl)
 try simp only[Act.put,List.getElem_toArray,List.getElem_cons_zero,List.getElem_cons_succ,List.setIfInBounds_toArray,List.set_cons_zero,List.set_cons_succ]
 refine wpAnyH_tk 6 ?k7v rfl ?k7y ?k7r
 case k7y=>(intro w hSw;(try dsimp only at hSw);go_simp;try with_reducible rfl)
 try simp only[Act.put,List.getElem_toArray,List.getElem_cons_zero,List.getElem_cons_succ,List.setIfInBounds_toArray,List.set_cons_zero,List.set_cons_succ]
 refine wpAnyH_tk 7 ?k8v rfl ?k8y ?k8r
 case k8y=>(intro w hSw;(try dsimp only at hSw);go_simp;try with_reducible rfl)
 try simp only[Act.put,List.getElem_toArray,List.getElem_cons_zero,List.getElem_cons_succ,List.setIfInBounds_toArray,List.set_cons_zero,List.set_cons_succ]
 refine wpAnyH_tk 8 ?k9v rfl ?k9y ?k9r
 case k9y=>(intro w hSw;(try dsimp only at hSw);go_simp;try with_reducible rfl)
 try simp only[Act.put,List.getElem_toArray,List.getElem_cons_zero,List.getElem_cons_succ,List.setIfInBounds_toArray,List.set_cons_zero,List.set_cons_succ]
 refine wpAnyH_tk 9 ?k10v rfl ?k10y ?k10r
 case k10y=>(intro w hSw;(try dsimp only at hSw);go_simp;try with_reducible rfl)
 try simp only[Act.put,List.getElem_toArray,List.getElem_cons_zero,List.getElem_cons_succ,List.setIfInBounds_toArray,List.set_cons_zero,List.set_cons_succ]
 refine wpAnyH_tk 11 ?k11v rfl ?k11y ?k11r
 case k11y=>(intro w hSw;(try dsimp only at hSw);go_simp;try with_reducible rfl)
 try simp only[Act.put,List.getElem_toArray,List.getElem_cons_zero,List.getElem_cons_succ,List.setIfInBounds_toArray,List.set_cons_zero,List.set_cons_succ]
 refine wpAnyH_tk 12 ?k12v rfl ?k12y ?k12r
 case k12y=>(intro w hSw;(try dsimp only at hSw);go_simp;try with_reducible rfl)
 try simp only[Act.put,List.getElem_toArray,List.getElem_cons_zero,List.getElem_cons_succ,List.setIfInBounds_toArray,List.set_cons_zero,List.set_cons_succ]
 refine wpAnyH_tk 13 ?k13v rfl ?k13y ?k13r
 case k13y=>(intro w hSw;(try dsimp only at hSw);go_simp;try with_reducible rfl)
 try simp only[Act.put,List.getElem_toArray,List.getElem_cons_zero,List.getElem_cons_succ,List.setIfInBounds_toArray,List.set_cons_zero,List.set_cons_succ]
 refine wpAnyH_tk 16 ?k14v rfl ?k14y ?k14r
 case k14y=>(intro w hSw;(try dsimp only at hSw);go_simp;try with_reducible rfl)
 try simp only[Act.put,List.getElem_toArray,List.getElem_cons_zero,List.getElem_cons_succ,List.setIfInBounds_toArray,List.set_cons_zero,List.set_cons_succ]
 obtain⟨t0,ht0,hbd⟩:∃v,u.drew=v/\Below u.heap.size u v:=⟨_,rfl,(Below.refl _ _).drew⟩
 rw[ht0]at TD⊢
 clear ht0
 have OT:Hid (t0.ownsRow B 5 1 sv n (Lib.byteCells l)):=row_belowB OU.out hbd
 have hBt:B<=t0.heap.size:=Nat.le_trans hBu hbd.size
 have hBw:Below B w t0:=hbB.trans (hbd.mono hBu)
 have KWT:Hid (Lib.OthersKept 5 none w t0):=KWU.out.trans (kept_below hbd)
 have ST:Hid (SC t0 sb nb ob mb d):=SU.out.below (hbd.mono hBu) ls ln lm
 refine wpAnyH_ready (rs:=[10]) (by kernel_rfl) (by simp) ?_
 obtain⟨v1,w1,hrun,hown1,hgrow,_⟩:=Lib.run_append_own_string (P:=Tryz.prog) t0 B 30 9 30 5 iS Tryz.underlying30 Tryz.underlying9 HI.out.1 HI.out.2.1 HI.out.2.2.1 HI.out.2.2.2 sv n (Lib.byteCells l) OT.out (nmS op) (by have:=HN.out;unfold maxLen;omega) (by have:=HN.out;omega) hBt
 have hB1:Below B t0 w1:=(Below.refl _ _).grown hgrow hBt (fun k hk=>(OT.out.lt k hk).1)
 have T1:IA sb nb ob mb px d op dd a b i h w1:=⟨(hB1.block sb ls).trans TD.S,(hB1.block nb ln).trans TD.N,kept_row OT.out hgrow (Lib.OthersKept.refl _ none _) px _ TD.X (by simp) (fun c fz=>by simp)⟩
 have KW1:Hid (Lib.OthersKept 5 none w w1):=kept_row OT.out hgrow KWT.out
 have S1:Hid (SC w1 sb nb ob mb d):=ST.out.below hB1 ls ln lm
 have O1:Hid (w1.ownsRow B 5 1 v1 (n+(nmS op).size) (Lib.byteCells (l++(nmS op).data.toList))):=by
  have:=hown1
  rw[str_bc,app_len]at this
  exact this
 have hBw1:Below B w w1:=hBw.trans hB1
 have hz1:B<=w1.heap.size:=Nat.le_trans hBt hB1.size
 refine readyH_appendS (.tmp 7) (.tmp 16) rfl (by kernel_rfl) rfl rfl rfl hrun T1 (fun _=>?_)
 clear hown1 hgrow hrun
 try simp only[Act.put,List.getElem_toArray,List.getElem_cons_zero,List.getElem_cons_succ,List.setIfInBounds_toArray,List.set_cons_zero,List.set_cons_succ]
 refine wpAnyH_ready (rs:=[14]) (by kernel_rfl) (by simp) ?_
 refine AllReadyH.cons rfl (fun KK hK=>?_) AllReadyH.nil
 go_simp
 refine(shapeOf_any op _).mono ?_
 rintro e w2⟨rfl,hw2⟩
 rw[hw2]
 clear hw2
 refine hK.out _ _ T1 (fun _=>?_)
 clear hK KK
 try simp only[Act.put,List.getElem_toArray,List.getElem_cons_zero,List.getElem_cons_succ,List.setIfInBounds_toArray,List.set_cons_zero,List.set_cons_succ]
 refine wpAnyH_ready (rs:=[15]) (by kernel_rfl) (by simp) ?_
 refine AllReadyH.cons rfl (fun KK hK=>?_) AllReadyH.nil
 go_simp
 refine(partsOf_any sb nb ob mb d (shpI op) w1 S1.out HF.out).mono ?_
 rintro e w3⟨rfl,hb3⟩
 have T3:IA sb nb ob mb px d op dd a b i h w3:=⟨(hb3.block sb (by omega)).trans T1.S,(hb3.block nb (by omega)).trans T1.N,(hb3.block px (Array.getElem?_eq_some_iff.1 T1.X).1).trans T1.X⟩
 refine hK.out _ _ T3 (fun _=>?_)
 clear hK KK
 try simp only[Act.put,List.getElem_toArray,List.getElem_cons_zero,List.getElem_cons_succ,List.setIfInBounds_toArray,List.set_cons_zero,List.set_cons_succ]
 refine wpAnyH_ready (rs:=[17]) (by kernel_rfl) (by simp) ?_
 refine AllReadyH.cons rfl (fun KK hK=>?_) AllReadyH.nil
 go_simp
 have hkk:=HK.out
 refine(addParts_any B (n+(nmS op).size) v1 (l++(nmS op).data.toList) (ptS d (shpI op)) op dd a b i h w3 (Nat.le_trans hz1 hb3.size) (row_belowB O1.out hb3) (pt_size _ _) (by have:=HN.out;omega) hkk.1 hkk.2.1 hkk.2.2.1 hkk.2.2.2.1 hkk.2.2.2.2 (HT.out.on (hBw1.trans (hb3.mono hz1)))).mono ?_
 rintro e w4⟨v',n',rfl,ho,hn2,hk2,hb4⟩
 have T4:IA sb nb ob mb px d op dd a b i h w4:=⟨(hb4.block sb ls).trans T3.S,(hb4.block nb ln).trans T3.N,hk2 px _ T3.X (by simp) (fun c fz=>by simp)⟩
 have O4:Hid (w4.ownsRow B 5 1 v' n' (Lib.byteCells (l++(lineS d op dd a b i h++⟨#[10]⟩).data.toList))):=by
  have e9:l++(nmS op).data.toList++(rendS (rbI dd a b i h) ⟨#[]⟩ (ptS d (shpI op)).data.toList).data.toList++[10]=l++(lineS d op dd a b i h++⟨#[10]⟩).data.toList:=by
   rw[<-HLS.out]
   unfold lineI
   have:=rend_base (rbI dd a b i h) (ptS d (shpI op)).data.toList (nmS op)
   simp[this]
  rw[e9]at ho
  exact ho
 have KW4:Hid (Lib.OthersKept 5 none w w4):=(KW1.out.trans (kept_below hb3)).trans hk2
 have HN4:Hid (n'<=n+30000200):=by show _<=_;omega
 refine hK.out _ _ T4 (fun _=>?_)
 clear hK KK ho hn2 hk2 hkk
 try simp only[Act.put,List.getElem_toArray,List.getElem_cons_zero,List.getElem_cons_succ,List.setIfInBounds_toArray,List.set_cons_zero,List.set_cons_succ]
 refine wpAnyH_tk 18 ?k15v rfl ?k15y ?k15r
 case k15y=>(intro w hSw;(try dsimp only at hSw);go_simp;try with_reducible rfl)
 try simp only[Act.put,List.getElem_toArray,List.getElem_cons_zero,List.getElem_cons_succ,List.setIfInBounds_toArray,List.set_cons_zero,List.set_cons_succ]
 refine wpAnyH_done (by kernel_rfl) ?_ _
 go_wp2_with fail
 go_ret
 exact⟨v',n',rfl,O4.out,HN4.out,hBw1.trans ((hb3.mono hz1).trans hb4),KW4.out⟩
end Go.Proofs.YtiphbmhoifggiaaGreatDoor
