import Derived.Test.YtblfmpgdhpbffaaGreatDoorOfPzL5
import Derived.Test.YtblfmpgdhpbffaaGreatDoorOfRdLine
set_option maxHeartbeats 6400000
set_option maxRecDepth 20000
namespace Go.Proofs.YtblfmpgdhpbffaaGreatDoor
open Go.RowKit Go.Proofs
theorem line_op{l:List UInt8}{b:Bool}{x:NV}(h:rdLine 1 l=some (b,x)):b=true∨x.op≠0:=by
 unfold rdLine at h;rcases hf:fit (ptL 1 64) l nv0 with _|y
 ·rw[hf]at h
  simp only at h;rcases hi:insL 1 l with _|y
  ·rw[hi]at h;cases h
  ·rw[hi]at h
   simp only at h;split at h
   ·cases h
    rename_i hc
    right;intro e;unfold canS at hc;rw[e]at hc;unfold implIns at hc;simp at hc;exact absurd hc.1.1.1.1.1 (by decide)
   ·cases h
 ·rw[hf]at h
  cases h;exact .inl rfl
theorem heap_set7{w:World}{g:Nat}{a0 a1 a2 a3 a4 a5 a6 b0 b1 b2 b3 b4 b5 b6:Value}{t:TypeId}(h:w.heap[g]?=some (.cells #[a0,a1,a2,a3,a4,a5,a6] t)):(setW w g 0 [b0,b1,b2,b3,b4,b5,b6]).heap[g]?=some (.cells #[b0,b1,b2,b3,b4,b5,b6] t):=by
 have h0:(w.setCell ⟨g,0,none⟩ b0).heap[g]?=some (.cells #[b0,a1,a2,a3,a4,a5,a6] t):=heap_setZ h 0 b0;have h1:=heap_setZ h0 1 b1;have h2:=heap_setZ h1 2 b2;have h3:=heap_setZ h2 3 b3;have h4:=heap_setZ h3 4 b4;have h5:=heap_setZ h4 5 b5;exact heap_setZ h5 6 b6
theorem insLine_any(B:Nat)(S:PS)(rb sb nb ob mf km:Nat)(sH sR sP sO:Sl)(bv:List Value)(l:List UInt8)(fb:Nat)(w:World)(hB:B<=w.heap.size)(hm:PR w B S rb sb nb ob mf km sH sR sP sO bv)(hf:FA w fb (fldS l))(hbd:Bnd S 100000)(hl:(l.length:Int)<=199999):
 Calls Tryz.prog 37 #[.pointer (some ⟨rb,0,none⟩),.slice (some ⟨fb,0,none⟩) (fldS l).length (fldS l).length] w fun e w'=>PA B w rb sb nb ob mf km (match rdLine 1 l with|some (_,x)=>(if S.st=3 then some (addS S ⟨1,x.op,x.d,x.a,x.b,x.imm,x.h,0,0,0,0⟩)else none)|none=>none) e w':=by
 obtain⟨RR,hRR⟩:∃y,(match rdLine 1 l with|some (_,x)=>(if S.st=3 then some (addS S ⟨1,x.op,x.d,x.a,x.b,x.imm,x.h,0,0,0,0⟩)else none)|none=>none)=y:=⟨_,rfl⟩
 rw[hRR]
 have HRR:Hid ((match rdLine 1 l with|some (_,x)=>(if S.st=3 then some (addS S ⟨1,x.op,x.d,x.a,x.b,x.imm,x.h,0,0,0,0⟩)else none)|none=>none)=RR):=hRR
 clear hRR
 have M:Hid (PR w B S rb sb nb ob mf km sH sR sP sO bv):=hm
 have HBD:Hid (Bnd S 100000):=hbd
 have HF:Hid (FA w fb (fldS l)):=hf
 have hfl:=fld_len l
 obtain⟨fl,hfe⟩:∃y,(fldS l).length=y:=⟨_,rfl⟩
 rw[hfe]at hfl⊢
 have HFE:Hid ((fldS l).length=fl):=hfe
 have hz:rb<w.heap.size:=(Array.getElem?_eq_some_iff.1 hm.C).1
 have HFZ:Hid (fb<w.heap.size):=(by obtain⟨cur,h1,_⟩:=hf.c;exact(Array.getElem?_eq_some_iff.1 h1).1:fb<w.heap.size)
 obtain⟨js,hjs⟩:∃y,stB l=y:=⟨_,rfl⟩
 have HJS:Hid (stB l=js):=hjs
 have hjl:js.size=l.length:=by rw[<-hjs];simp[stB,ByteArray.size]
 have hjz:(js.size:Int)<=199999:=by omega
 have HJO:Hid ((⟨(Lib.join ((fldS l).map stB |>.map (·.data.toList)) [32]).toArray⟩:ByteArray)=js):=(by rw[<-hjs,List.map_map,show((fun b:ByteArray=>b.data.toList)∘stB)=id by funext x;simp[stB],List.map_id,fld_join];rfl:(⟨(Lib.join ((fldS l).map stB |>.map (·.data.toList)) [32]).toArray⟩:ByteArray)=js)
 have HJC:Hid (∀t:World,Below w.heap.size w t->Calls Tryz.prog 63 #[.slice (some ⟨fb,0,none⟩) fl fl,.string ⟨#[32]⟩] t fun e w'=>e=.returned (.string js)/\Below t.heap.size t w'):=(fun t hb=>by
  have e1:((fldS l).map stB).length=fl:=by simp[hfe]
  have e2:(Lib.join ((fldS l).map stB |>.map (·.data.toList)) [32]).length=js.size:=by rw[<-HJO.out];simp[ByteArray.size]
  have h:=stringsJoin_any fb 0 fl ((fldS l).map stB) ⟨#[32]⟩ t (fun j y hj=>by
   rw[Nat.zero_add]
   have hj2:j<(fldS l).length:=by have:=(List.getElem?_eq_some_iff.1 hj).1;simpa using this
   rw[List.getElem?_map,List.getElem?_eq_getElem hj2]at hj
   have hy:stB ((fldS l)[j])=y:=by simpa using hj
   refine((hf.below hb).cell j hj2).trans ?_
   rw[<-hy]
   unfold fd
   rw[List.getD_eq_getElem?_getD,List.getElem?_eq_getElem hj2]
   rfl) (Nat.lt_of_lt_of_le HFZ.out hb.size) (by omega) (by omega) (by show(Lib.join ((fldS l).map stB |>.map (·.data.toList)) [32]).length<=_;omega)
  rw[e1]at h
  refine h.mono ?_
  rintro e w'⟨he,hb'⟩
  rw[show(⟨(Lib.join ((fldS l).map stB |>.map (·.data.toList)) (⟨#[32]⟩:ByteArray).data.toList).toArray⟩:ByteArray)=js from HJO.out]at he
  exact⟨he,hb'⟩:∀t:World,Below w.heap.size w t->Calls Tryz.prog 63 #[.slice (some ⟨fb,0,none⟩) fl fl,.string ⟨#[32]⟩] t fun e w'=>e=.returned (.string js)/\Below t.heap.size t w')
 clear hm hf hbd hfe hjs HJO HFZ
 go_enter Tryz.func37,Tryz.ntmps37
 obtain⟨bb,x,hbx⟩:∃bb x,(rdLine 1 l).getD (false,nv0)=(bb,x):=⟨_,_,rfl⟩
 have HLN:Hid (lnA (rdLine 1 l)=#[.bool bb,.int .i64 x.op,.int .i64 x.d,.int .i64 x.a,.int .i64 x.b,.int .i64 x.imm,.int .i64 x.h]):=(by unfold lnA;rw[hbx];rfl:lnA (rdLine 1 l)=#[.bool bb,.int .i64 x.op,.int .i64 x.d,.int .i64 x.a,.int .i64 x.b,.int .i64 x.imm,.int .i64 x.h])
 have HBX:Hid ((rdLine 1 l).getD (false,nv0)=(bb,x)):=hbx
 clear hbx
 have hcv:∀t:World,(convert 9 22 (.string js)).run Tryz.prog t=.ok (.slice (some ⟨t.heap.size,0,none⟩) js.size (grownCap t js.size 0 5)) (Lib.bytesWorld t 5 js):=fun t=>Lib.run_convert_string_bytes t 9 22 5 js Tryz.underlying9 Tryz.underlying22 Tryz.underlying5
 go_upto_region 1 with fail
 go_cut [5](fun gv wx=>∃gb:Nat,gv=.pointer (some ⟨gb,0,none⟩)/\Below w.heap.size w wx/\wx.heap[gb]?=some (.cells #[.bool bb,.int .i64 x.op,.int .i64 x.d,.int .i64 x.a,.int .i64 x.b,.int .i64 x.imm,.int .i64 x.h] 120)/\w.heap.size<=gb)
 case first=>
  have r0:∀w':World,Below w.heap.size w w'->w'.cell? ⟨rb,14,none⟩=some (.pointer (some ⟨sb,0,none⟩)):=fun w' h=>(M.out.below h).cells.2.2.2.2.2.2.1
  refine wp_region_held_drew (S:=fun w'=>Below w.heap.size w w') (by kernel_rfl) (Below.refl _ _).drew (fun hHeld=>?_)
  have hB0:Below w.heap.size w w.drew:=hHeld
  generalize w.drew=t0 at hHeld hB0⊢
  refine wpAnyH_tk 0 ?k1v rfl ?k1y ?k1r
  case k1y=>(intro w hSw;(try dsimp only at hSw);go_simp;try with_reducible rfl)
  try go_frame
  refine wpAnyH_tk 1 ?k2v rfl ?k2y ?k2r
  case k2y=>(intro w hSw;(try dsimp only at hSw);go_simp;try with_reducible rfl)
  try go_frame
  refine wpAnyH_tk 2 ?k3v rfl ?k3y ?k3r
  case k3y=>(intro w hSw;(try dsimp only at hSw);go_simp;try with_reducible rfl)
  try go_frame
  refine wpAnyH_tk 3 ?k4v rfl ?k4y ?k4r
  case k4y=>(intro w hSw;(try dsimp only at hSw);go_simp;try with_reducible rfl)
  try go_frame
  refine wpAnyH_tk 4 ?k5v rfl ?k5y ?k5r
  case k5y=>(intro w hSw;(try dsimp only at hSw);go_simp;try with_reducible rfl)
  try go_frame
  refine wpAnyH_ready (rs:=[5,8]) (by kernel_rfl) (by simp) ?_
  refine AllReadyH.cons rfl (fun KK hK=>?_) (AllReadyH.cons rfl (fun KK hK=>?_) AllReadyH.nil)
  ·skip
   go_simp
   refine Calls.mono (HJC.out t0 hB0) ?_
   rintro e t1⟨rfl,hb'⟩
   have hB1:Below w.heap.size w t1:=hB0.trans (hb'.mono hB0.size)
   refine hK.out _ _ hB1 (fun _=>?_)
   clear hK KK hb'
   refine wpAnyH_ready (rs:=[6,8]) (by kernel_rfl) (by simp) ?_
   refine AllReadyH.cons rfl (fun KK hK=>?_) (AllReadyH.cons rfl (fun KK hK=>?_) AllReadyH.nil)
   ·skip
    go_simp
    obtain⟨t2,hu',hb',hat'⟩:∃y,Lib.bytesWorld t1 5 js=y/\Below t1.heap.size t1 y/\At y t1.heap.size 0 l.length (numF .u8 (bF l)):=⟨_,rfl,Lib.bytesWorld_below _ _ _,by rw[Lib.bytesWorld_size];omega,fun i hi=>by
     rw[Nat.zero_add,Lib.bytesWorld_cell t1 5 js i (by omega),<-HJS.out]
     rfl⟩
    rw[hu']
    have hB2:Below w.heap.size w t2:=hB1.trans (hb'.mono hB1.size)
    have HAT:Hid (At t2 t1.heap.size 0 l.length (numF .u8 (bF l))):=hat'
    have hcg:l.length<=grownCap t1 l.length 0 5:=grownCap_ge _ _ _ _
    obtain⟨cg,hcge⟩:∃y,grownCap t1 l.length 0 5=y:=⟨_,rfl⟩
    rw[hcge]at hcg⊢
    obtain⟨jb,hjb⟩:∃y,t1.heap.size=y:=⟨_,rfl⟩
    rw[hjb]at HAT⊢
    clear hu' hat' hcge hjb
    refine hK.out _ _ hB2 (fun _=>?_)
    clear hK KK hb'
    try go_frame
    refine wpAnyH_ready (rs:=[7,8]) (by kernel_rfl) (by simp) ?_
    refine AllReadyH.cons rfl (fun KK hK=>?_) (AllReadyH.cons rfl (fun KK hK=>?_) AllReadyH.nil)
    ·skip
     go_simp
     refine(readLine_any sb nb ob mf 1 jb 0 cg l t2 (M.out.below hB2).SC (M.out.below hB2).OA (.inr rfl) (by omega) hcg HAT.out).mono ?_
     rintro e t3⟨rfl,hb'⟩
     rw[HLN.out]
     have hB3:Below w.heap.size w t3:=hB2.trans (hb'.mono hB2.size)
     have HAT:Hid (At t3 jb 0 l.length (numF .u8 (bF l))):=HAT.out.below hb' HAT.out.lt
     refine hK.out _ _ hB3 (fun _=>?_)
     clear hK KK hb'
     refine wpAnyH_ready (rs:=[8]) (by kernel_rfl) (by simp) ?_
     refine AllReadyH.cons rfl (fun KK hK=>?_) AllReadyH.nil
     go_simp
     obtain⟨t4,hu',hb',hg'⟩:∃y,t3.alloc (.cells #[.bool false,.int .i64 0,.int .i64 0,.int .i64 0,.int .i64 0,.int .i64 0,.int .i64 0] 120)=y/\Below t3.heap.size t3 y/\y.heap[t3.heap.size]?=some (.cells #[.bool false,.int .i64 0,.int .i64 0,.int .i64 0,.int .i64 0,.int .i64 0,.int .i64 0] 120):=⟨_,rfl,(Below.refl _ _).alloc (Nat.le_refl _) _,heap_alloc_newB _ _⟩
     rw[hu']
     have hB4:Below w.heap.size w t4:=hB3.trans (hb'.mono hB3.size)
     obtain⟨gb,hgb⟩:∃y,t3.heap.size=y:=⟨_,rfl⟩
     have hgz:w.heap.size<=gb:=by rw[<-hgb];exact hB3.size
     rw[hgb]at hg'⊢
     have HG4:Hid (t4.heap[gb]?=some (.cells #[.bool false,.int .i64 0,.int .i64 0,.int .i64 0,.int .i64 0,.int .i64 0,.int .i64 0] 120)):=hg'
     clear hu' hg' hgb
     have HAT:Hid (At t4 jb 0 l.length (numF .u8 (bF l))):=HAT.out.below hb' HAT.out.lt
     refine hK.out _ _ hB4 (fun _=>?_)
     clear hK KK hb'
     try go_frame
     have z0:=hp_cell HG4.out 0
     have z1:=hp_cell HG4.out 1
     have z2:=hp_cell HG4.out 2
     have z3:=hp_cell HG4.out 3
     have z4:=hp_cell HG4.out 4
     have z5:=hp_cell HG4.out 5
     have z6:=hp_cell HG4.out 6
     simp only[List.getElem?_toArray,List.getElem?_cons_zero,List.getElem?_cons_succ]at z0 z1 z2 z3 z4 z5 z6
     have zf:=hp_frz HG4.out
     have HW9:Hid ((setW t4 gb 0 [.bool bb,.int .i64 x.op,.int .i64 x.d,.int .i64 x.a,.int .i64 x.b,.int .i64 x.imm,.int .i64 x.h]).heap[gb]?=some (.cells #[.bool bb,.int .i64 x.op,.int .i64 x.d,.int .i64 x.a,.int .i64 x.b,.int .i64 x.imm,.int .i64 x.h] 120)):=heap_set7 HG4.out
     have HB9:Hid (Below w.heap.size w (setW t4 gb 0 [.bool bb,.int .i64 x.op,.int .i64 x.d,.int .i64 x.a,.int .i64 x.b,.int .i64 x.imm,.int .i64 x.h])):=below_setW hgz _ _ hB4
     refine wpAnyH_ready (rs:=[9]) (by kernel_rfl) (by simp) ?_
     refine AllReadyH.cons rfl (fun KK hK=>?_) AllReadyH.nil
     go_simp
     refine hK.out _ _ HB9.out (fun _=>?_)
     clear hK KK
     refine wpAnyH_done (by kernel_rfl) ?_ _
     go_wp2_with fail
     go_meet
     exact⟨gb,rfl,HB9.out,HW9.out,hgz⟩
    ·skip
     go_simp
     obtain⟨t3,hu',hb',hg'⟩:∃y,t2.alloc (.cells #[.bool false,.int .i64 0,.int .i64 0,.int .i64 0,.int .i64 0,.int .i64 0,.int .i64 0] 120)=y/\Below t2.heap.size t2 y/\y.heap[t2.heap.size]?=some (.cells #[.bool false,.int .i64 0,.int .i64 0,.int .i64 0,.int .i64 0,.int .i64 0,.int .i64 0] 120):=⟨_,rfl,(Below.refl _ _).alloc (Nat.le_refl _) _,heap_alloc_newB _ _⟩
     rw[hu']
     have hB3:Below w.heap.size w t3:=hB2.trans (hb'.mono hB2.size)
     obtain⟨gb,hgb⟩:∃y,t2.heap.size=y:=⟨_,rfl⟩
     have hgz:w.heap.size<=gb:=by rw[<-hgb];exact hB2.size
     rw[hgb]at hg'⊢
     have HG3:Hid (t3.heap[gb]?=some (.cells #[.bool false,.int .i64 0,.int .i64 0,.int .i64 0,.int .i64 0,.int .i64 0,.int .i64 0] 120)):=hg'
     clear hu' hg' hgb
     have HAT:Hid (At t3 jb 0 l.length (numF .u8 (bF l))):=HAT.out.below hb' HAT.out.lt
     refine hK.out _ _ hB3 (fun _=>?_)
     clear hK KK hb'
     try go_frame
     refine wpAnyH_ready (rs:=[7]) (by kernel_rfl) (by simp) ?_
     refine AllReadyH.cons rfl (fun KK hK=>?_) AllReadyH.nil
     go_simp
     refine(readLine_any sb nb ob mf 1 jb 0 cg l t3 (M.out.below hB3).SC (M.out.below hB3).OA (.inr rfl) (by omega) hcg HAT.out).mono ?_
     rintro e t4⟨rfl,hb'⟩
     rw[HLN.out]
     have hB4:Below w.heap.size w t4:=hB3.trans (hb'.mono hB3.size)
     have HG4:Hid (t4.heap[gb]?=some (.cells #[.bool false,.int .i64 0,.int .i64 0,.int .i64 0,.int .i64 0,.int .i64 0,.int .i64 0] 120)):=(hb'.block gb (Array.getElem?_eq_some_iff.1 HG3.out).1).trans HG3.out
     have HAT:Hid (At t4 jb 0 l.length (numF .u8 (bF l))):=HAT.out.below hb' HAT.out.lt
     refine hK.out _ _ hB4 (fun _=>?_)
     clear hK KK hb'
     have z0:=hp_cell HG4.out 0
     have z1:=hp_cell HG4.out 1
     have z2:=hp_cell HG4.out 2
     have z3:=hp_cell HG4.out 3
     have z4:=hp_cell HG4.out 4
     have z5:=hp_cell HG4.out 5
     have z6:=hp_cell HG4.out 6
     simp only[List.getElem?_toArray,List.getElem?_cons_zero,List.getElem?_cons_succ]at z0 z1 z2 z3 z4 z5 z6
     have zf:=hp_frz HG4.out
     have HW9:Hid ((setW t4 gb 0 [.bool bb,.int .i64 x.op,.int .i64 x.d,.int .i64 x.a,.int .i64 x.b,.int .i64 x.imm,.int .i64 x.h]).heap[gb]?=some (.cells #[.bool bb,.int .i64 x.op,.int .i64 x.d,.int .i64 x.a,.int .i64 x.b,.int .i64 x.imm,.int .i64 x.h] 120)):=heap_set7 HG4.out
     have HB9:Hid (Below w.heap.size w (setW t4 gb 0 [.bool bb,.int .i64 x.op,.int .i64 x.d,.int .i64 x.a,.int .i64 x.b,.int .i64 x.imm,.int .i64 x.h])):=below_setW hgz _ _ hB4
     refine wpAnyH_ready (rs:=[9]) (by kernel_rfl) (by simp) ?_
     refine AllReadyH.cons rfl (fun KK hK=>?_) AllReadyH.nil
     go_simp
     refine hK.out _ _ HB9.out (fun _=>?_)
     clear hK KK
     refine wpAnyH_done (by kernel_rfl) ?_ _
     go_wp2_with fail
     go_meet
     exact⟨gb,rfl,HB9.out,HW9.out,hgz⟩
   ·skip
    go_simp
    obtain⟨t2,hu',hb',hg'⟩:∃y,t1.alloc (.cells #[.bool false,.int .i64 0,.int .i64 0,.int .i64 0,.int .i64 0,.int .i64 0,.int .i64 0] 120)=y/\Below t1.heap.size t1 y/\y.heap[t1.heap.size]?=some (.cells #[.bool false,.int .i64 0,.int .i64 0,.int .i64 0,.int .i64 0,.int .i64 0,.int .i64 0] 120):=⟨_,rfl,(Below.refl _ _).alloc (Nat.le_refl _) _,heap_alloc_newB _ _⟩
    rw[hu']
    have hB2:Below w.heap.size w t2:=hB1.trans (hb'.mono hB1.size)
    obtain⟨gb,hgb⟩:∃y,t1.heap.size=y:=⟨_,rfl⟩
    have hgz:w.heap.size<=gb:=by rw[<-hgb];exact hB1.size
    rw[hgb]at hg'⊢
    have HG2:Hid (t2.heap[gb]?=some (.cells #[.bool false,.int .i64 0,.int .i64 0,.int .i64 0,.int .i64 0,.int .i64 0,.int .i64 0] 120)):=hg'
    clear hu' hg' hgb
    refine hK.out _ _ hB2 (fun _=>?_)
    clear hK KK hb'
    try go_frame
    refine wpAnyH_ready (rs:=[6]) (by kernel_rfl) (by simp) ?_
    refine AllReadyH.cons rfl (fun KK hK=>?_) AllReadyH.nil
    go_simp
    obtain⟨t3,hu',hb',hat'⟩:∃y,Lib.bytesWorld t2 5 js=y/\Below t2.heap.size t2 y/\At y t2.heap.size 0 l.length (numF .u8 (bF l)):=⟨_,rfl,Lib.bytesWorld_below _ _ _,by rw[Lib.bytesWorld_size];omega,fun i hi=>by
     rw[Nat.zero_add,Lib.bytesWorld_cell t2 5 js i (by omega),<-HJS.out]
     rfl⟩
    rw[hu']
    have hB3:Below w.heap.size w t3:=hB2.trans (hb'.mono hB2.size)
    have HAT:Hid (At t3 t2.heap.size 0 l.length (numF .u8 (bF l))):=hat'
    have hcg:l.length<=grownCap t2 l.length 0 5:=grownCap_ge _ _ _ _
    obtain⟨cg,hcge⟩:∃y,grownCap t2 l.length 0 5=y:=⟨_,rfl⟩
    rw[hcge]at hcg⊢
    obtain⟨jb,hjb⟩:∃y,t2.heap.size=y:=⟨_,rfl⟩
    rw[hjb]at HAT⊢
    clear hu' hat' hcge hjb
    have HG3:Hid (t3.heap[gb]?=some (.cells #[.bool false,.int .i64 0,.int .i64 0,.int .i64 0,.int .i64 0,.int .i64 0,.int .i64 0] 120)):=(hb'.block gb (Array.getElem?_eq_some_iff.1 HG2.out).1).trans HG2.out
    refine hK.out _ _ hB3 (fun _=>?_)
    clear hK KK hb'
    try go_frame
    refine wpAnyH_ready (rs:=[7]) (by kernel_rfl) (by simp) ?_
    refine AllReadyH.cons rfl (fun KK hK=>?_) AllReadyH.nil
    go_simp
    refine(readLine_any sb nb ob mf 1 jb 0 cg l t3 (M.out.below hB3).SC (M.out.below hB3).OA (.inr rfl) (by omega) hcg HAT.out).mono ?_
    rintro e t4⟨rfl,hb'⟩
    rw[HLN.out]
    have hB4:Below w.heap.size w t4:=hB3.trans (hb'.mono hB3.size)
    have HG4:Hid (t4.heap[gb]?=some (.cells #[.bool false,.int .i64 0,.int .i64 0,.int .i64 0,.int .i64 0,.int .i64 0,.int .i64 0] 120)):=(hb'.block gb (Array.getElem?_eq_some_iff.1 HG3.out).1).trans HG3.out
    have HAT:Hid (At t4 jb 0 l.length (numF .u8 (bF l))):=HAT.out.below hb' HAT.out.lt
    refine hK.out _ _ hB4 (fun _=>?_)
    clear hK KK hb'
    have z0:=hp_cell HG4.out 0
    have z1:=hp_cell HG4.out 1
    have z2:=hp_cell HG4.out 2
    have z3:=hp_cell HG4.out 3
    have z4:=hp_cell HG4.out 4
    have z5:=hp_cell HG4.out 5
    have z6:=hp_cell HG4.out 6
    simp only[List.getElem?_toArray,List.getElem?_cons_zero,List.getElem?_cons_succ]at z0 z1 z2 z3 z4 z5 z6
    have zf:=hp_frz HG4.out
    have HW9:Hid ((setW t4 gb 0 [.bool bb,.int .i64 x.op,.int .i64 x.d,.int .i64 x.a,.int .i64 x.b,.int .i64 x.imm,.int .i64 x.h]).heap[gb]?=some (.cells #[.bool bb,.int .i64 x.op,.int .i64 x.d,.int .i64 x.a,.int .i64 x.b,.int .i64 x.imm,.int .i64 x.h] 120)):=heap_set7 HG4.out
    have HB9:Hid (Below w.heap.size w (setW t4 gb 0 [.bool bb,.int .i64 x.op,.int .i64 x.d,.int .i64 x.a,.int .i64 x.b,.int .i64 x.imm,.int .i64 x.h])):=below_setW hgz _ _ hB4
    refine wpAnyH_ready (rs:=[9]) (by kernel_rfl) (by simp) ?_
    refine AllReadyH.cons rfl (fun KK hK=>?_) AllReadyH.nil
    go_simp
    refine hK.out _ _ HB9.out (fun _=>?_)
    clear hK KK
    refine wpAnyH_done (by kernel_rfl) ?_ _
    go_wp2_with fail
    go_meet
    exact⟨gb,rfl,HB9.out,HW9.out,hgz⟩
  ·skip
   go_simp
   obtain⟨t1,hu',hb',hg'⟩:∃y,t0.alloc (.cells #[.bool false,.int .i64 0,.int .i64 0,.int .i64 0,.int .i64 0,.int .i64 0,.int .i64 0] 120)=y/\Below t0.heap.size t0 y/\y.heap[t0.heap.size]?=some (.cells #[.bool false,.int .i64 0,.int .i64 0,.int .i64 0,.int .i64 0,.int .i64 0,.int .i64 0] 120):=⟨_,rfl,(Below.refl _ _).alloc (Nat.le_refl _) _,heap_alloc_newB _ _⟩
   rw[hu']
   have hB1:Below w.heap.size w t1:=hB0.trans (hb'.mono hB0.size)
   obtain⟨gb,hgb⟩:∃y,t0.heap.size=y:=⟨_,rfl⟩
   have hgz:w.heap.size<=gb:=by rw[<-hgb];exact hB0.size
   rw[hgb]at hg'⊢
   have HG1:Hid (t1.heap[gb]?=some (.cells #[.bool false,.int .i64 0,.int .i64 0,.int .i64 0,.int .i64 0,.int .i64 0,.int .i64 0] 120)):=hg'
   clear hu' hg' hgb
   refine hK.out _ _ hB1 (fun _=>?_)
   clear hK KK hb'
   try go_frame
   refine wpAnyH_ready (rs:=[5]) (by kernel_rfl) (by simp) ?_
   refine AllReadyH.cons rfl (fun KK hK=>?_) AllReadyH.nil
   go_simp
   refine Calls.mono (HJC.out t1 hB1) ?_
   rintro e t2⟨rfl,hb'⟩
   have hB2:Below w.heap.size w t2:=hB1.trans (hb'.mono hB1.size)
   have HG2:Hid (t2.heap[gb]?=some (.cells #[.bool false,.int .i64 0,.int .i64 0,.int .i64 0,.int .i64 0,.int .i64 0,.int .i64 0] 120)):=(hb'.block gb (Array.getElem?_eq_some_iff.1 HG1.out).1).trans HG1.out
   refine hK.out _ _ hB2 (fun _=>?_)
   clear hK KK hb'
   refine wpAnyH_ready (rs:=[6]) (by kernel_rfl) (by simp) ?_
   refine AllReadyH.cons rfl (fun KK hK=>?_) AllReadyH.nil
   go_simp
   obtain⟨t3,hu',hb',hat'⟩:∃y,Lib.bytesWorld t2 5 js=y/\Below t2.heap.size t2 y/\At y t2.heap.size 0 l.length (numF .u8 (bF l)):=⟨_,rfl,Lib.bytesWorld_below _ _ _,by rw[Lib.bytesWorld_size];omega,fun i hi=>by
    rw[Nat.zero_add,Lib.bytesWorld_cell t2 5 js i (by omega),<-HJS.out]
    rfl⟩
   rw[hu']
   have hB3:Below w.heap.size w t3:=hB2.trans (hb'.mono hB2.size)
   have HAT:Hid (At t3 t2.heap.size 0 l.length (numF .u8 (bF l))):=hat'
   have hcg:l.length<=grownCap t2 l.length 0 5:=grownCap_ge _ _ _ _
   obtain⟨cg,hcge⟩:∃y,grownCap t2 l.length 0 5=y:=⟨_,rfl⟩
   rw[hcge]at hcg⊢
   obtain⟨jb,hjb⟩:∃y,t2.heap.size=y:=⟨_,rfl⟩
   rw[hjb]at HAT⊢
   clear hu' hat' hcge hjb
   have HG3:Hid (t3.heap[gb]?=some (.cells #[.bool false,.int .i64 0,.int .i64 0,.int .i64 0,.int .i64 0,.int .i64 0,.int .i64 0] 120)):=(hb'.block gb (Array.getElem?_eq_some_iff.1 HG2.out).1).trans HG2.out
   refine hK.out _ _ hB3 (fun _=>?_)
   clear hK KK hb'
   try go_frame
   refine wpAnyH_ready (rs:=[7]) (by kernel_rfl) (by simp) ?_
   refine AllReadyH.cons rfl (fun KK hK=>?_) AllReadyH.nil
   go_simp
   refine(readLine_any sb nb ob mf 1 jb 0 cg l t3 (M.out.below hB3).SC (M.out.below hB3).OA (.inr rfl) (by omega) hcg HAT.out).mono ?_
   rintro e t4⟨rfl,hb'⟩
   rw[HLN.out]
   have hB4:Below w.heap.size w t4:=hB3.trans (hb'.mono hB3.size)
   have HG4:Hid (t4.heap[gb]?=some (.cells #[.bool false,.int .i64 0,.int .i64 0,.int .i64 0,.int .i64 0,.int .i64 0,.int .i64 0] 120)):=(hb'.block gb (Array.getElem?_eq_some_iff.1 HG3.out).1).trans HG3.out
   have HAT:Hid (At t4 jb 0 l.length (numF .u8 (bF l))):=HAT.out.below hb' HAT.out.lt
   refine hK.out _ _ hB4 (fun _=>?_)
   clear hK KK hb'
   have z0:=hp_cell HG4.out 0
   have z1:=hp_cell HG4.out 1
   have z2:=hp_cell HG4.out 2
   have z3:=hp_cell HG4.out 3
   have z4:=hp_cell HG4.out 4
   have z5:=hp_cell HG4.out 5
   have z6:=hp_cell HG4.out 6
   simp only[List.getElem?_toArray,List.getElem?_cons_zero,List.getElem?_cons_succ]at z0 z1 z2 z3 z4 z5 z6
   have zf:=hp_frz HG4.out
   have HW9:Hid ((setW t4 gb 0 [.bool bb,.int .i64 x.op,.int .i64 x.d,.int .i64 x.a,.int .i64 x.b,.int .i64 x.imm,.int .i64 x.h]).heap[gb]?=some (.cells #[.bool bb,.int .i64 x.op,.int .i64 x.d,.int .i64 x.a,.int .i64 x.b,.int .i64 x.imm,.int .i64 x.h] 120)):=heap_set7 HG4.out
   have HB9:Hid (Below w.heap.size w (setW t4 gb 0 [.bool bb,.int .i64 x.op,.int .i64 x.d,.int .i64 x.a,.int .i64 x.b,.int .i64 x.imm,.int .i64 x.h])):=below_setW hgz _ _ hB4
   refine wpAnyH_ready (rs:=[9]) (by kernel_rfl) (by simp) ?_
   refine AllReadyH.cons rfl (fun KK hK=>?_) AllReadyH.nil
   go_simp
   refine hK.out _ _ HB9.out (fun _=>?_)
   clear hK KK
   refine wpAnyH_done (by kernel_rfl) ?_ _
   go_wp2_with fail
   go_meet
   exact⟨gb,rfl,HB9.out,HW9.out,hgz⟩
 case rest=>
  obtain⟨gb,rfl,hb,hg,hgz⟩:=hcut
  have M1:Hid (PR wc B S rb sb nb ob mf km sH sR sP sO bv):=M.out.below hb
  have F1:Hid (Fm tsP B w wc):=Fm.of_below hb hB
  have hBc:B<=wc.heap.size:=by have:=hb.size;omega
  have z0:=hp_cell hg 0
  have z1:=hp_cell hg 1
  have z2:=hp_cell hg 2
  have z3:=hp_cell hg 3
  have z4:=hp_cell hg 4
  have z5:=hp_cell hg 5
  have z6:=hp_cell hg 6
  simp only[List.getElem?_toArray,List.getElem?_cons_zero,List.getElem?_cons_succ]at z0 z1 z2 z3 z4 z5 z6
  clear hb hg hcv HJC
  cases hrl:rdLine 1 l with
  |none=>
   have hn:(bb,x)=(false,nv0):=by rw[<-HBX.out,hrl];rfl
   obtain⟨rfl,rfl⟩:=Prod.mk.inj hn
   have HN:Hid (RR=none):=(by rw[<-HRR.out,hrl]:RR=none)
   clear hn hrl
   go_wp2_with fail
   go_ret
   rw[HN.out]
   exact⟨F1.out,rfl,fun _ h=>(by cases h)⟩
  |some r=>
   obtain⟨b',x'⟩:=r
   have hn:(b',x')=(bb,x):=by rw[<-HBX.out,hrl];rfl
   obtain⟨rfl,rfl⟩:=Prod.mk.inj hn
   have HN:Hid (RR=if S.st=3 then some (addS S ⟨1,x'.op,x'.d,x'.a,x'.b,x'.imm,x'.h,0,0,0,0⟩)else none):=(by rw[<-HRR.out,hrl]:RR=if S.st=3 then some (addS S ⟨1,x'.op,x'.d,x'.a,x'.b,x'.imm,x'.h,0,0,0,0⟩)else none)
   have hwf:=line_op hrl
   clear hn hrl
   cases b' with
   |true=>
    go_wp2_with fail
    refine(addStmt_any B S rb sb nb ob mf km sH sR sP sO bv ⟨1,x'.op,x'.d,x'.a,x'.b,x'.imm,x'.h,0,0,0,0⟩ wc hBc M1.out HBD.out).mono ?_
    rintro e u2⟨hf2,rfl,hp⟩
    rw[<-HN.out]at hp⊢
    have F2:Hid (Fm tsP B w u2):=F1.out.trans hf2
    have HP:Hid (∀S',RR=some S'->∃(sH sR sP sO:Sl)(bv:List Value),PR u2 B S' rb sb nb ob mf km sH sR sP sO bv):=hp
    obtain⟨b9,hb9⟩:∃y,RR.isSome=y:=⟨_,rfl⟩
    rw[hb9]
    have HBB:Hid (RR.isSome=b9):=hb9
    clear hf2 hp hb9
    go_wp2_with fail
    go_ret
    exact⟨F2.out,by rw[HBB.out];rfl,HP.out⟩
   |false=>
    have e0:(x'.op==0)=false:=by rw[beq_eq_false_iff_ne];exact hwf.resolve_left (by decide)
    go_wp2_with fail
    refine(addStmt_any B S rb sb nb ob mf km sH sR sP sO bv ⟨1,x'.op,x'.d,x'.a,x'.b,x'.imm,x'.h,0,0,0,0⟩ wc hBc M1.out HBD.out).mono ?_
    rintro e u2⟨hf2,rfl,hp⟩
    rw[<-HN.out]at hp⊢
    have F2:Hid (Fm tsP B w u2):=F1.out.trans hf2
    have HP:Hid (∀S',RR=some S'->∃(sH sR sP sO:Sl)(bv:List Value),PR u2 B S' rb sb nb ob mf km sH sR sP sO bv):=hp
    obtain⟨b9,hb9⟩:∃y,RR.isSome=y:=⟨_,rfl⟩
    rw[hb9]
    have HBB:Hid (RR.isSome=b9):=hb9
    clear hf2 hp hb9
    go_wp2_with fail
    go_ret
    exact⟨F2.out,by rw[HBB.out];rfl,HP.out⟩
end Go.Proofs.YtblfmpgdhpbffaaGreatDoor
