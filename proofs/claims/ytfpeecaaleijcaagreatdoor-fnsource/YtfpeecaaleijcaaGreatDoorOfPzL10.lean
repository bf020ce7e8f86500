import Derived.Test.YtfpeecaaleijcaaGreatDoorOfCl
import Derived.Test.YtfpeecaaleijcaaGreatDoorOfPzL5
import Derived.Test.YtfpeecaaleijcaaGreatDoorOfRdLine
import Derived.Test.YtfpeecaaleijcaaGreatDoorOfPzL2
set_option maxHeartbeats 6400000
set_option maxRecDepth 20000
namespace Go.Proofs.YtfpeecaaleijcaaGreatDoor
open Go.RowKit Go.Proofs
variable {B:Nat}{w:World}
theorem Z6{l:List UInt8}{b:Bool}{x:NV}(h:Da 1 l=some (b,x)):b=true∨x.op≠0:=by
 unfold Da at h;rcases hf:fit (H8 1 64) l JB with _|y
 ·rw[hf]at h
  simp only at h;rcases hi:KE 1 l with _|y
  ·rw[hi]at h;cases h
  ·rw[hi]at h
   simp only at h;split at h
   ·cases h
    rename_i hc
    right;intro e;unfold Hq at hc;rw[e]at hc;unfold Ar at hc;simp at hc;exact absurd hc.1.1.1.1.1 (by decide)
   ·cases h
 ·rw[hf]at h
  cases h;exact .inl rfl
theorem IJ{g:Nat}{a0 a1 a2 a3 a4 a5 a6 b0 b1 b2 b3 b4 b5 b6:Value}{t:TypeId}(h:w.heap[g]?=some (.cells #[a0,a1,a2,a3,a4,a5,a6] t)):(setW w g 0 [b0,b1,b2,b3,b4,b5,b6]).heap[g]?=some (.cells #[b0,b1,b2,b3,b4,b5,b6] t):=by
 have h0:(w.setCell (Va g 0) b0).heap[g]?=some (.cells #[b0,a1,a2,a3,a4,a5,a6] t):=Bq h 0 b0;have h1:=Bq h0 1 b1;have h2:=Bq h1 2 b2;have h3:=Bq h2 3 b3;have h4:=Bq h3 4 b4;have h5:=Bq h4 5 b5;exact Bq h5 6 b6
theorem RU(B:Nat)(S:PS)(rb sb nb ob mf km:Nat)(sH sR sP sO:Sl)(bv:List Value)(l:List UInt8)(fb:Nat)(w:World)(hB:B<=w.heap.size)(hm:PR w B S rb sb nb ob mf km sH sR sP sO bv)(hf:FA w fb (Aj l))(hbd:Ie S 100000)(hl:(l.length:Int)<=199999):
 Calls Tryz.prog 62 #[Vq rb,Vs fb (Aj l).length (Aj l).length] w fun e w'=>PA B w rb sb nb ob mf km (match Da 1 l with|some (_,x)=>(if S.st=3 then some (Dw S ⟨1,x.op,x.d,x.a,x.b,x.imm,x.h,0,0,0,0⟩)else none)|none=>none) e w':=by
 obtain⟨RR,hRR⟩:=Ae ((match Da 1 l with|some (_,x)=>(if S.st=3 then some (Dw S ⟨1,x.op,x.d,x.a,x.b,x.imm,x.h,0,0,0,0⟩)else none)|none=>none));rw[hRR];have HRR:=hxy hRR;clear hRR;have M:=hxy hm;have HBD:=hxy hbd;have HF:=hxy hf;have hfl:=VX l;obtain⟨fl,hfe⟩:=Ae ((Aj l).length);rw[hfe]at hfl⊢;have HFE:=hxy hfe;have hz:rb<w.heap.size:=(jH.1 hm.C).1;have HFZ:Hid (fb<w.heap.size):=(by obtain⟨cur,h1,_⟩:=hf.c;exact(jH.1 h1).1:fb<w.heap.size)
 obtain⟨js,hjs⟩:=Ae (Ck l);have HJS:=hxy hjs;have hjl:js.size=l.length:=by rw[<-hjs];simp[Ck,ByteArray.size]
 have hjz:(js.size:Int)<=199999:=by omega
 have HJO:Hid ((⟨(Lib.join ((Aj l).map Ck |>.map (·.data.toList)) [32]).toArray⟩:ByteArray)=js):=(by rw[<-hjs,List.map_map,show((fun b:ByteArray=>b.data.toList)∘Ck)=id by funext x;simp[Ck],List.map_id,Rt];rfl:(⟨(Lib.join ((Aj l).map Ck |>.map (·.data.toList)) [32]).toArray⟩:ByteArray)=js)
 have HJC:Hid (∀t:World,Below w.heap.size w t->Calls Tryz.prog 43 #[Vs fb fl fl,.string ⟨#[32]⟩] t fun e w'=>e=.returned (.string js)/\Below t.heap.size t w'):=(fun t hb=>by
  have e1:((Aj l).map Ck).length=fl:=by simp[hfe]
  have e2:(Lib.join ((Aj l).map Ck |>.map (·.data.toList)) [32]).length=js.size:=by rw[<-HJO.out];simp[ByteArray.size]
  have h:=Gh fb 0 fl ((Aj l).map Ck) ⟨#[32]⟩ t (fun j y hj=>by
   rw[Nat.zero_add];have hj2:j<(Aj l).length:=by have:=(List.getElem?_eq_some_iff.1 hj).1;simpa using this
   rw[List.getElem?_map,List.getElem?_eq_getElem hj2]at hj;have hy:Ck ((Aj l)[j])=y:=by simpa using hj
   refine((hf.below hb).cell j hj2).trans ?_;rw[<-hy];unfold fd;rw[jJ,List.getElem?_eq_getElem hj2];rfl) (jI HFZ.out hb.size) (by omega) (by omega) (by show(Lib.join ((Aj l).map Ck |>.map (·.data.toList)) [32]).length<=_;omega)
  rw[e1]at h;refine h.mono ?_;rintro e w'⟨he,hb'⟩;rw[show(⟨(Lib.join ((Aj l).map Ck |>.map (·.data.toList)) (⟨#[32]⟩:ByteArray).data.toList).toArray⟩:ByteArray)=js from HJO.out]at he;exact⟨he,hb'⟩:∀t:World,Below w.heap.size w t->Calls Tryz.prog 43 #[Vs fb fl fl,.string ⟨#[32]⟩] t fun e w'=>e=.returned (.string js)/\Below t.heap.size t w')
 clear hm hf hbd hfe hjs HJO HFZ;go_enter Tryz.func62,Tryz.ntmps62;obtain⟨bb,x,hbx⟩:∃bb x,(Da 1 l).getD (false,JB)=(bb,x):=⟨_,_,rfl⟩
 have HLN:Hid (Ws (Da 1 l)=#[.bool bb,Vi x.op,Vi x.d,Vi x.a,Vi x.b,Vi x.imm,Vi x.h]):=(by unfold Ws;rw[hbx];rfl:Ws (Da 1 l)=#[.bool bb,Vi x.op,Vi x.d,Vi x.a,Vi x.b,Vi x.imm,Vi x.h])
 have HBX:=hxy hbx;clear hbx;have hcv:∀t:World,(convert 9 22 (.string js)).run Tryz.prog t=.ok (Vs t.heap.size js.size (grownCap t js.size 0 5)) (Lib.bytesWorld t 5 js):=fun t=>Lib.run_convert_string_bytes t 9 22 5 js Tryz.underlying9 Tryz.underlying22 Tryz.underlying5
 go_upto_region 1 with fail;go_cut [5](fun gv wx=>∃gb:Nat,gv=Vq gb/\Below w.heap.size w wx/\wx.heap[gb]?=some (.cells #[.bool bb,Vi x.op,Vi x.d,Vi x.a,Vi x.b,Vi x.imm,Vi x.h] 182)/\w.heap.size<=gb)
 case first=>
  have r0:∀w':World,Below w.heap.size w w'->w'.cell? (Va rb 14)=some (Vq sb):=fun w' h=>(M.out.below h).cells.2.2.2.2.2.2.1
  refine wp_region_held_drew (S:=fun w'=>Below w.heap.size w w') (by kernel_rfl) (Below.refl _ _).drew (fun hHeld=>?_);have hB0:Below w.heap.size w w.drew:=hHeld;generalize w.drew=t0 at hHeld hB0⊢;refine AB 0 rfl ?_;refine AB 1 rfl ?_;refine AB 2 rfl ?_;refine AB 3 rfl ?_;refine AB 4 rfl ?_;refine wpAnyH_ready (rs:=[5,8]) (by kernel_rfl) (by simp) ?_;refine AllReadyH.cons rfl (fun KK hK=>?_) (AllReadyH.cons rfl (fun KK hK=>?_) AllReadyH.nil)
  ·skip
   go_simp;refine Calls.mono (HJC.out t0 hB0) ?_;rintro e t1⟨rfl,hb'⟩;have hB1:=hB0.trans (hb'.mono hB0.size);refine hK.out _ _ hB1 (fun _=>?_);clear hK KK hb';refine wpAnyH_ready (rs:=[6,8]) (by kernel_rfl) (by simp) ?_;refine AllReadyH.cons rfl (fun KK hK=>?_) (AllReadyH.cons rfl (fun KK hK=>?_) AllReadyH.nil)
   ·skip
    go_simp;obtain⟨t2,hu',hb',hat'⟩:∃y,Lib.bytesWorld t1 5 js=y/\Below t1.heap.size t1 y/\At y t1.heap.size 0 l.length (EG .u8 (bF l)):=⟨_,rfl,Lib.bytesWorld_below _ _ _,by rw[Lib.bytesWorld_size];omega,fun i hi=>by
     rw[Nat.zero_add,Lib.bytesWorld_cell t1 5 js i (by omega),<-HJS.out];rfl⟩
    rw[hu'];have hB2:=hB1.trans (hb'.mono hB1.size);have HAT:=hxy hat';have hcg:l.length<=grownCap t1 l.length 0 5:=grownCap_ge _ _ _ _;obtain⟨cg,hcge⟩:=Ae (grownCap t1 l.length 0 5);rw[hcge]at hcg⊢;obtain⟨jb,hjb⟩:=Ae t1.heap.size;rw[hjb]at HAT⊢;clear hu' hat' hcge hjb;refine hK.out _ _ hB2 (fun _=>?_);clear hK KK hb';try simp only[Act.put,BP,BN,BK,BQ,BS,BM]
    refine wpAnyH_ready (rs:=[7,8]) (by kernel_rfl) (by simp) ?_;refine AllReadyH.cons rfl (fun KK hK=>?_) (AllReadyH.cons rfl (fun KK hK=>?_) AllReadyH.nil)
    ·skip
     go_simp;refine(Ew sb nb ob mf 1 jb 0 cg l t2 (M.out.below hB2).SC (M.out.below hB2).OA (.inr rfl) (by omega) hcg HAT.out).mono ?_;rintro e t3⟨rfl,hb'⟩;rw[HLN.out];have hB3:=hB2.trans (hb'.mono hB2.size);have HAT:=hxy (HAT.out.below hb' HAT.out.lt);refine hK.out _ _ hB3 (fun _=>?_);clear hK KK hb';refine AO 8 rfl (fun KK hK=>?_);go_simp;obtain⟨t4,hu',hb',hg'⟩:∃y,t3.alloc (.cells #[.bool false,Vi 0,Vi 0,Vi 0,Vi 0,Vi 0,Vi 0] 182)=y/\Below t3.heap.size t3 y/\y.heap[t3.heap.size]?=some (.cells #[.bool false,Vi 0,Vi 0,Vi 0,Vi 0,Vi 0,Vi 0] 182):=⟨_,rfl,Ak,Ai _ _⟩
     rw[hu'];have hB4:=hB3.trans (hb'.mono hB3.size);obtain⟨gb,hgb⟩:=Ae t3.heap.size;have hgz:w.heap.size<=gb:=by rw[<-hgb];exact hB3.size
     rw[hgb]at hg'⊢;have HG4:=hxy hg'
     clear hu' hg' hgb
     have HAT:=hxy (HAT.out.below hb' HAT.out.lt)
     refine hK.out _ _ hB4 (fun _=>?_)
     clear hK KK hb'
     try simp only[Act.put,BP,BN,BK,BQ,BS,BM]
     have z0:=AV HG4.out 0
     have z1:=AV HG4.out 1
     have z2:=AV HG4.out 2
     have z3:=AV HG4.out 3
     have z4:=AV HG4.out 4
     have z5:=AV HG4.out 5
     have z6:=AV HG4.out 6
     simp only[List.getElem?_toArray,List.getElem?_cons_zero,List.getElem?_cons_succ]at z0 z1 z2 z3 z4 z5 z6
     have zf:=CQ HG4.out
     have HW9:Hid ((setW t4 gb 0 [.bool bb,Vi x.op,Vi x.d,Vi x.a,Vi x.b,Vi x.imm,Vi x.h]).heap[gb]?=some (.cells #[.bool bb,Vi x.op,Vi x.d,Vi x.a,Vi x.b,Vi x.imm,Vi x.h] 182)):=IJ HG4.out
     have HB9:Hid (Below w.heap.size w (setW t4 gb 0 [.bool bb,Vi x.op,Vi x.d,Vi x.a,Vi x.b,Vi x.imm,Vi x.h])):=Bv hgz _ _ hB4
     refine AO 9 rfl (fun KK hK=>?_)
     go_simp
     refine hK.out _ _ HB9.out (fun _=>?_)
     clear hK KK
     refine wpAnyH_done (by kernel_rfl) ?_ _
     go_wp2_with fail
     go_meet
     exact⟨gb,rfl,HB9.out,HW9.out,hgz⟩
    ·skip
     go_simp
     obtain⟨t3,hu',hb',hg'⟩:∃y,t2.alloc (.cells #[.bool false,Vi 0,Vi 0,Vi 0,Vi 0,Vi 0,Vi 0] 182)=y/\Below t2.heap.size t2 y/\y.heap[t2.heap.size]?=some (.cells #[.bool false,Vi 0,Vi 0,Vi 0,Vi 0,Vi 0,Vi 0] 182):=⟨_,rfl,Ak,Ai _ _⟩
     rw[hu']
     have hB3:=hB2.trans (hb'.mono hB2.size)
     obtain⟨gb,hgb⟩:=Ae t2.heap.size
     have hgz:w.heap.size<=gb:=by rw[<-hgb];exact hB2.size
     rw[hgb]at hg'⊢
     have HG3:=hxy hg'
     clear hu' hg' hgb
     have HAT:=hxy (HAT.out.below hb' HAT.out.lt)
     refine hK.out _ _ hB3 (fun _=>?_)
     clear hK KK hb'
     try simp only[Act.put,BP,BN,BK,BQ,BS,BM]
     refine AO 7 rfl (fun KK hK=>?_)
     go_simp
     refine(Ew sb nb ob mf 1 jb 0 cg l t3 (M.out.below hB3).SC (M.out.below hB3).OA (.inr rfl) (by omega) hcg HAT.out).mono ?_
     rintro e t4⟨rfl,hb'⟩
     rw[HLN.out]
     have hB4:=hB3.trans (hb'.mono hB3.size)
     have HG4:Hid (t4.heap[gb]?=some (.cells #[.bool false,Vi 0,Vi 0,Vi 0,Vi 0,Vi 0,Vi 0] 182)):=(hb'.block gb (jH.1 HG3.out).1).trans HG3.out
     have HAT:=hxy (HAT.out.below hb' HAT.out.lt)
     refine hK.out _ _ hB4 (fun _=>?_)
     clear hK KK hb'
     have z0:=AV HG4.out 0
     have z1:=AV HG4.out 1
     have z2:=AV HG4.out 2
     have z3:=AV HG4.out 3
     have z4:=AV HG4.out 4
     have z5:=AV HG4.out 5
     have z6:=AV HG4.out 6
     simp only[List.getElem?_toArray,List.getElem?_cons_zero,List.getElem?_cons_succ]at z0 z1 z2 z3 z4 z5 z6
     have zf:=CQ HG4.out
     have HW9:Hid ((setW t4 gb 0 [.bool bb,Vi x.op,Vi x.d,Vi x.a,Vi x.b,Vi x.imm,Vi x.h]).heap[gb]?=some (.cells #[.bool bb,Vi x.op,Vi x.d,Vi x.a,Vi x.b,Vi x.imm,Vi x.h] 182)):=IJ HG4.out
     have HB9:Hid (Below w.heap.size w (setW t4 gb 0 [.bool bb,Vi x.op,Vi x.d,Vi x.a,Vi x.b,Vi x.imm,Vi x.h])):=Bv hgz _ _ hB4
     refine AO 9 rfl (fun KK hK=>?_)
     go_simp
     refine hK.out _ _ HB9.out (fun _=>?_)
     clear hK KK
     refine wpAnyH_done (by kernel_rfl) ?_ _
     go_wp2_with fail
     go_meet
     exact⟨gb,rfl,HB9.out,HW9.out,hgz⟩
   ·skip
    go_simp
    obtain⟨t2,hu',hb',hg'⟩:∃y,t1.alloc (.cells #[.bool false,Vi 0,Vi 0,Vi 0,Vi 0,Vi 0,Vi 0] 182)=y/\Below t1.heap.size t1 y/\y.heap[t1.heap.size]?=some (.cells #[.bool false,Vi 0,Vi 0,Vi 0,Vi 0,Vi 0,Vi 0] 182):=⟨_,rfl,Ak,Ai _ _⟩
    rw[hu']
    have hB2:=hB1.trans (hb'.mono hB1.size)
    obtain⟨gb,hgb⟩:=Ae t1.heap.size
    have hgz:w.heap.size<=gb:=by rw[<-hgb];exact hB1.size
    rw[hgb]at hg'⊢
    have HG2:=hxy hg'
    clear hu' hg' hgb
    refine hK.out _ _ hB2 (fun _=>?_)
    clear hK KK hb'
    try simp only[Act.put,BP,BN,BK,BQ,BS,BM]
    refine AO 6 rfl (fun KK hK=>?_)
    go_simp
    obtain⟨t3,hu',hb',hat'⟩:∃y,Lib.bytesWorld t2 5 js=y/\Below t2.heap.size t2 y/\At y t2.heap.size 0 l.length (EG .u8 (bF l)):=⟨_,rfl,Lib.bytesWorld_below _ _ _,by rw[Lib.bytesWorld_size];omega,fun i hi=>by
     rw[Nat.zero_add,Lib.bytesWorld_cell t2 5 js i (by omega),<-HJS.out]
     rfl⟩
    rw[hu']
    have hB3:=hB2.trans (hb'.mono hB2.size)
    have HAT:=hxy hat'
    have hcg:l.length<=grownCap t2 l.length 0 5:=grownCap_ge _ _ _ _
    obtain⟨cg,hcge⟩:=Ae (grownCap t2 l.length 0 5)
    rw[hcge]at hcg⊢
    obtain⟨jb,hjb⟩:=Ae t2.heap.size
    rw[hjb]at HAT⊢
    clear hu' hat' hcge hjb
    have HG3:Hid (t3.heap[gb]?=some (.cells #[.bool false,Vi 0,Vi 0,Vi 0,Vi 0,Vi 0,Vi 0] 182)):=(hb'.block gb (jH.1 HG2.out).1).trans HG2.out
    refine hK.out _ _ hB3 (fun _=>?_)
    clear hK KK hb'
    try simp only[Act.put,BP,BN,BK,BQ,BS,BM]
    refine AO 7 rfl (fun KK hK=>?_)
    go_simp
    refine(Ew sb nb ob mf 1 jb 0 cg l t3 (M.out.below hB3).SC (M.out.below hB3).OA (.inr rfl) (by omega) hcg HAT.out).mono ?_
    rintro e t4⟨rfl,hb'⟩
    rw[HLN.out]
    have hB4:=hB3.trans (hb'.mono hB3.size)
    have HG4:Hid (t4.heap[gb]?=some (.cells #[.bool false,Vi 0,Vi 0,Vi 0,Vi 0,Vi 0,Vi 0] 182)):=(hb'.block gb (jH.1 HG3.out).1).trans HG3.out
    have HAT:=hxy (HAT.out.below hb' HAT.out.lt)
    refine hK.out _ _ hB4 (fun _=>?_)
    clear hK KK hb'
    have z0:=AV HG4.out 0
    have z1:=AV HG4.out 1
    have z2:=AV HG4.out 2
    have z3:=AV HG4.out 3
    have z4:=AV HG4.out 4
    have z5:=AV HG4.out 5
    have z6:=AV HG4.out 6
    simp only[List.getElem?_toArray,List.getElem?_cons_zero,List.getElem?_cons_succ]at z0 z1 z2 z3 z4 z5 z6
    have zf:=CQ HG4.out
    have HW9:Hid ((setW t4 gb 0 [.bool bb,Vi x.op,Vi x.d,Vi x.a,Vi x.b,Vi x.imm,Vi x.h]).heap[gb]?=some (.cells #[.bool bb,Vi x.op,Vi x.d,Vi x.a,Vi x.b,Vi x.imm,Vi x.h] 182)):=IJ HG4.out
    have HB9:Hid (Below w.heap.size w (setW t4 gb 0 [.bool bb,Vi x.op,Vi x.d,Vi x.a,Vi x.b,Vi x.imm,Vi x.h])):=Bv hgz _ _ hB4
    refine AO 9 rfl (fun KK hK=>?_)
    go_simp
    refine hK.out _ _ HB9.out (fun _=>?_)
    clear hK KK
    refine wpAnyH_done (by kernel_rfl) ?_ _
    go_wp2_with fail
    go_meet
    exact⟨gb,rfl,HB9.out,HW9.out,hgz⟩
  ·skip
   go_simp
   obtain⟨t1,hu',hb',hg'⟩:∃y,t0.alloc (.cells #[.bool false,Vi 0,Vi 0,Vi 0,Vi 0,Vi 0,Vi 0] 182)=y/\Below t0.heap.size t0 y/\y.heap[t0.heap.size]?=some (.cells #[.bool false,Vi 0,Vi 0,Vi 0,Vi 0,Vi 0,Vi 0] 182):=⟨_,rfl,Ak,Ai _ _⟩
   rw[hu']
   have hB1:=hB0.trans (hb'.mono hB0.size)
   obtain⟨gb,hgb⟩:=Ae t0.heap.size
   have hgz:w.heap.size<=gb:=by rw[<-hgb];exact hB0.size
   rw[hgb]at hg'⊢
   have HG1:=hxy hg'
   clear hu' hg' hgb
   refine hK.out _ _ hB1 (fun _=>?_)
   clear hK KK hb'
   try simp only[Act.put,BP,BN,BK,BQ,BS,BM]
   refine AO 5 rfl (fun KK hK=>?_)
   go_simp
   refine Calls.mono (HJC.out t1 hB1) ?_
   rintro e t2⟨rfl,hb'⟩
   have hB2:=hB1.trans (hb'.mono hB1.size)
   have HG2:Hid (t2.heap[gb]?=some (.cells #[.bool false,Vi 0,Vi 0,Vi 0,Vi 0,Vi 0,Vi 0] 182)):=(hb'.block gb (jH.1 HG1.out).1).trans HG1.out
   refine hK.out _ _ hB2 (fun _=>?_)
   clear hK KK hb'
   refine AO 6 rfl (fun KK hK=>?_)
   go_simp
   obtain⟨t3,hu',hb',hat'⟩:∃y,Lib.bytesWorld t2 5 js=y/\Below t2.heap.size t2 y/\At y t2.heap.size 0 l.length (EG .u8 (bF l)):=⟨_,rfl,Lib.bytesWorld_below _ _ _,by rw[Lib.bytesWorld_size];omega,fun i hi=>by
    rw[Nat.zero_add,Lib.bytesWorld_cell t2 5 js i (by omega),<-HJS.out]
    rfl⟩
   rw[hu']
   have hB3:=hB2.trans (hb'.mono hB2.size)
   have HAT:=hxy hat'
   have hcg:l.length<=grownCap t2 l.length 0 5:=grownCap_ge _ _ _ _
   obtain⟨cg,hcge⟩:=Ae (grownCap t2 l.length 0 5)
   rw[hcge]at hcg⊢
   obtain⟨jb,hjb⟩:=Ae t2.heap.size
   rw[hjb]at HAT⊢
   clear hu' hat' hcge hjb
   have HG3:Hid (t3.heap[gb]?=some (.cells #[.bool false,Vi 0,Vi 0,Vi 0,Vi 0,Vi 0,Vi 0] 182)):=(hb'.block gb (jH.1 HG2.out).1).trans HG2.out
   refine hK.out _ _ hB3 (fun _=>?_)
   clear hK KK hb'
   try simp only[Act.put,BP,BN,BK,BQ,BS,BM]
   refine AO 7 rfl (fun KK hK=>?_)
   go_simp
   refine(Ew sb nb ob mf 1 jb 0 cg l t3 (M.out.below hB3).SC (M.out.below hB3).OA (.inr rfl) (by omega) hcg HAT.out).mono ?_
   rintro e t4⟨rfl,hb'⟩
   rw[HLN.out]
   have hB4:=hB3.trans (hb'.mono hB3.size)
   have HG4:Hid (t4.heap[gb]?=some (.cells #[.bool false,Vi 0,Vi 0,Vi 0,Vi 0,Vi 0,Vi 0] 182)):=(hb'.block gb (jH.1 HG3.out).1).trans HG3.out
   have HAT:=hxy (HAT.out.below hb' HAT.out.lt)
   refine hK.out _ _ hB4 (fun _=>?_)
   clear hK KK hb'
   have z0:=AV HG4.out 0
   have z1:=AV HG4.out 1
   have z2:=AV HG4.out 2
   have z3:=AV HG4.out 3
   have z4:=AV HG4.out 4
   have z5:=AV HG4.out 5
   have z6:=AV HG4.out 6
   simp only[List.getElem?_toArray,List.getElem?_cons_zero,List.getElem?_cons_succ]at z0 z1 z2 z3 z4 z5 z6
   have zf:=CQ HG4.out
   have HW9:Hid ((setW t4 gb 0 [.bool bb,Vi x.op,Vi x.d,Vi x.a,Vi x.b,Vi x.imm,Vi x.h]).heap[gb]?=some (.cells #[.bool bb,Vi x.op,Vi x.d,Vi x.a,Vi x.b,Vi x.imm,Vi x.h] 182)):=IJ HG4.out
   have HB9:Hid (Below w.heap.size w (setW t4 gb 0 [.bool bb,Vi x.op,Vi x.d,Vi x.a,Vi x.b,Vi x.imm,Vi x.h])):=Bv hgz _ _ hB4
   refine AO 9 rfl (fun KK hK=>?_)
   go_simp
   refine hK.out _ _ HB9.out (fun _=>?_)
   clear hK KK
   refine wpAnyH_done (by kernel_rfl) ?_ _
   go_wp2_with fail
   go_meet
   exact⟨gb,rfl,HB9.out,HW9.out,hgz⟩
 case rest=>
  obtain⟨gb,rfl,hb,hg,hgz⟩:=hcut
  have M1:=hxy (M.out.below hb)
  have F1:Hid (Fm GL B w wc):=Fm.of_below hb hB
  have hBc:B<=wc.heap.size:=by have:=hb.size;omega
  have z0:=AV hg 0
  have z1:=AV hg 1
  have z2:=AV hg 2
  have z3:=AV hg 3
  have z4:=AV hg 4
  have z5:=AV hg 5
  have z6:=AV hg 6
  simp only[List.getElem?_toArray,List.getElem?_cons_zero,List.getElem?_cons_succ]at z0 z1 z2 z3 z4 z5 z6
  clear hb hg hcv HJC
  cases hrl:Da 1 l with
  |none=>
   have hn:(bb,x)=(false,JB):=by rw[<-HBX.out,hrl];rfl
   obtain⟨rfl,rfl⟩:=Prod.mk.inj hn
   have HN:Hid (RR=none):=(by rw[<-HRR.out,hrl]:RR=none)
   clear hn hrl
   go_wp2_with fail
   go_ret
   rw[HN.out]
   exact⟨F1.out,rfl,fun _ h=>(by cases h)⟩
  |some r=>
   obtain⟨b',x'⟩:=r
   have hn:(b',x')=(bb,x):=by rw[<-HBX.out,hrl];rfl
   obtain⟨rfl,rfl⟩:=Prod.mk.inj hn
   have HN:Hid (RR=if S.st=3 then some (Dw S ⟨1,x'.op,x'.d,x'.a,x'.b,x'.imm,x'.h,0,0,0,0⟩)else none):=(by rw[<-HRR.out,hrl]:RR=if S.st=3 then some (Dw S ⟨1,x'.op,x'.d,x'.a,x'.b,x'.imm,x'.h,0,0,0,0⟩)else none)
   have hwf:=Z6 hrl
   clear hn hrl
   cases b' with
   |true=>
    go_wp2_with fail
    refine(FY B S rb sb nb ob mf km sH sR sP sO bv ⟨1,x'.op,x'.d,x'.a,x'.b,x'.imm,x'.h,0,0,0,0⟩ wc hBc M1.out HBD.out).mono ?_
    rintro e u2⟨hf2,rfl,hp⟩
    rw[<-HN.out]at hp⊢
    have F2:=hxy (F1.out.trans hf2)
    have HP:=hxy hp
    obtain⟨b9,hb9⟩:=Ae RR.isSome
    rw[hb9]
    have HBB:=hxy hb9
    clear hf2 hp hb9
    go_wp2_with fail
    go_ret
    exact⟨F2.out,by rw[HBB.out];rfl,HP.out⟩
   |false=>
    have e0:(x'.op==0)=false:=by rw[beq_eq_false_iff_ne];exact hwf.resolve_left (by decide)
    go_wp2_with fail
    refine(FY B S rb sb nb ob mf km sH sR sP sO bv ⟨1,x'.op,x'.d,x'.a,x'.b,x'.imm,x'.h,0,0,0,0⟩ wc hBc M1.out HBD.out).mono ?_
    rintro e u2⟨hf2,rfl,hp⟩
    rw[<-HN.out]at hp⊢
    have F2:=hxy (F1.out.trans hf2)
    have HP:=hxy hp
    obtain⟨b9,hb9⟩:=Ae RR.isSome
    rw[hb9]
    have HBB:=hxy hb9
    clear hf2 hp hb9
    go_wp2_with fail
    go_ret
    exact⟨F2.out,by rw[HBB.out];rfl,HP.out⟩
def G6(r:Option VV)(e:Ending):Prop:=∃v:VV,e=.returned (.tuple #[v.v,.bool r.isSome])/\∀x,r=some x->v=x
def Xk(a b c:List UInt8):Option VV:=match Bc false a,Bc true b,Bc true c with|some h,some lo,some hi=>some ⟨1,false,0,h,lo,hi⟩|_,_,_=>none
def YR(a b:List UInt8):Option VV:=match(if a=[97,110,121]then some (-1)else Bc false a),Di b with|some m,some s=>some ⟨0,s,m,0,0,0⟩|_,_=>none
theorem gG(s:ByteArray):rdNum 0 s.data.toList=Bc false s.data.toList:=by rw[show(0:Int)=(if false=true then -9999999999999 else 0)from rfl,FQ]
theorem fu(s:ByteArray):rdNum (-9999999999999) s.data.toList=Bc true s.data.toList:=by rw[show(-9999999999999:Int)=(if true=true then -9999999999999 else 0)from rfl,FQ]
theorem Li(s0 s1 s2:ByteArray)(w:World)(hE:Env w B)(hB:B<=w.heap.size)(h0:(s0.size:Int)<=200000)(h1:(s1.size:Int)<=200000)(h2:(s2.size:Int)<=200000):
 Calls Tryz.prog 122 #[.string s0,.string s1,.string s2] w fun e w'=>G6 (Xk s0.data.toList s1.data.toList s2.data.toList) e/\Below w.heap.size w w':=by
 obtain⟨RR,hRR⟩:∃y,(Xk s0.data.toList s1.data.toList s2.data.toList)=y:=⟨_,rfl⟩
 rw[hRR];have HRR:Hid ((match Bc false s0.data.toList,Bc true s1.data.toList,Bc true s2.data.toList with|some h,some lo,some hi=>some (⟨1,false,0,h,lo,hi⟩:VV)|_,_,_=>none)=RR):=hRR;have HE:Hid (Env w B):=hE;clear hE hRR;go_enter Tryz.func122,Tryz.ntmps122;go_upto_region 1 with fail;obtain⟨u,hu,hb,hv⟩:∃y,w.alloc (.cells #[Vi 0,.bool false,Vi 0,Vi 0,Vi 0,Vi 0] 42)=y/\Below w.heap.size w y/\y.heap[w.heap.size]?=some (.cells #[Vi 0,.bool false,Vi 0,Vi 0,Vi 0,Vi 0] 42):=⟨_,rfl,(Below.refl _ _).alloc jG _,Ai _ _⟩
 rw[hu];obtain⟨vb,hvb⟩:∃y,w.heap.size=y:=⟨_,rfl⟩
 rw[hvb]at hv⊢;have HVB:Hid (w.heap.size=vb):=hvb;have B0:Hid (Below w.heap.size w u):=hb;have V0:Hid (u.heap[vb]?=some (.cells #[Vi 0,.bool false,Vi 0,Vi 0,Vi 0,Vi 0] 42)):=hv;clear hu hb hv hvb;go_wp2_with fail;refine(Co s0 0 u (HE.out.below (B0.out.mono hB)) (by have:=B0.out.size;omega) h0).mono ?_;rintro e u1⟨j0,rfl,hj0,hb⟩;rw[gG]at hj0⊢;have B1:Hid (Below w.heap.size w u1):=B0.out.trans (hb.mono B0.out.size);have V1:Hid (u1.heap[vb]?=some (.cells #[Vi 0,.bool false,Vi 0,Vi 0,Vi 0,Vi 0] 42)):=(hb.block vb (jH.1 V0.out).1).trans V0.out;have HJ0:Hid (∀v,Bc false s0.data.toList=some v->j0=v):=hj0;obtain⟨b0,hb0⟩:∃y,(Bc false s0.data.toList).isSome=y:=⟨_,rfl⟩
 rw[hb0];have HB0:Hid ((Bc false s0.data.toList).isSome=b0):=hb0;clear hb hj0 hb0;go_wp2_with fail;refine(Co s1 (-9999999999999) u1 (HE.out.below (B1.out.mono hB)) (by have:=B1.out.size;omega) h1).mono ?_;rintro e u2⟨j1,rfl,hj1,hb⟩;rw[fu]at hj1⊢;have B2:Hid (Below w.heap.size w u2):=B1.out.trans (hb.mono B1.out.size);have V2:Hid (u2.heap[vb]?=some (.cells #[Vi 0,.bool false,Vi 0,Vi 0,Vi 0,Vi 0] 42)):=(hb.block vb (jH.1 V1.out).1).trans V1.out;have HJ1:Hid (∀v,Bc true s1.data.toList=some v->j1=v):=hj1;obtain⟨b1,hb1⟩:∃y,(Bc true s1.data.toList).isSome=y:=⟨_,rfl⟩
 rw[hb1];have HB1:Hid ((Bc true s1.data.toList).isSome=b1):=hb1;clear hb hj1 hb1;go_wp2_with fail;refine(Co s2 (-9999999999999) u2 (HE.out.below (B2.out.mono hB)) (by have:=B2.out.size;omega) h2).mono ?_;rintro e u3⟨j2,rfl,hj2,hb⟩;rw[fu]at hj2⊢;have B3:Hid (Below w.heap.size w u3):=B2.out.trans (hb.mono B2.out.size);have V3:Hid (u3.heap[vb]?=some (.cells #[Vi 0,.bool false,Vi 0,Vi 0,Vi 0,Vi 0] 42)):=(hb.block vb (jH.1 V2.out).1).trans V2.out;have HJ2:Hid (∀v,Bc true s2.data.toList=some v->j2=v):=hj2;obtain⟨b2,hb2⟩:∃y,(Bc true s2.data.toList).isSome=y:=⟨_,rfl⟩
 rw[hb2];have HB2:Hid ((Bc true s2.data.toList).isSome=b2):=hb2;clear hb hj2 hb2;have z0:=AV V3.out 0;have z1:=AV V3.out 1;have z2:=AV V3.out 2;have z3:=AV V3.out 3;have z4:=AV V3.out 4;have z5:=AV V3.out 5;simp only[List.getElem?_toArray,List.getElem?_cons_zero,List.getElem?_cons_succ]at z0 z1 z2 z3 z4 z5;have zf:=CQ V3.out;have HFIN:Hid (∀bb:Bool,bb=(b0&&b1&&b2)->G6 RR (.returned (.tuple #[.agg #[Vi 1,.bool false,Vi 0,Vi j0,Vi j1,Vi j2],.bool bb]))):=(by
  rintro bb rfl;refine⟨⟨1,false,0,j0,j1,j2⟩,?_,?_⟩
  ·rw[<-HRR.out,<-HB0.out,<-HB1.out,<-HB2.out]
   cases Bc false s0.data.toList<;>cases Bc true s1.data.toList<;>cases Bc true s2.data.toList<;>rfl
  ·intro x hx
   rw[<-HRR.out]at hx;cases q0:Bc false s0.data.toList with
   |none=>rw[q0]at hx;cases hx
   |some a=>cases q1:Bc true s1.data.toList with
    |none=>rw[q0,q1]at hx;cases hx
    |some b=>cases q2:Bc true s2.data.toList with
     |none=>rw[q0,q1,q2]at hx;cases hx
     |some c=>rw[q0,q1,q2]at hx;cases hx;rw[HJ0.out a q0,HJ1.out b q1,HJ2.out c q2]:∀bb:Bool,bb=(b0&&b1&&b2)->G6 RR (.returned (.tuple #[.agg #[Vi 1,.bool false,Vi 0,Vi j0,Vi j1,Vi j2],.bool bb])))
 have HB9:Hid (Below w.heap.size w (setW u3 vb 0 [Vi 1,.bool false,Vi 0,Vi j0,Vi j1,Vi j2])):=Bv (Nat.le_of_eq HVB.out) _ _ B3.out;cases b0 with
 |false=>
  cases b1 with
  |false=>
   cases b2 with
   |false=>
    go_wp2;refine bodyPost_ret (v:=.tuple #[.agg #[Vi 1,.bool false,Vi 0,Vi j0,Vi j1,Vi j2],.bool false]) (by simp[results,Tryz.results122,go_sem,z0,z1,z2,z3,z4,z5]) rfl ⟨HFIN.out false rfl,HB9.out⟩
   |true=>
    go_wp2;refine bodyPost_ret (v:=.tuple #[.agg #[Vi 1,.bool false,Vi 0,Vi j0,Vi j1,Vi j2],.bool false]) (by simp[results,Tryz.results122,go_sem,z0,z1,z2,z3,z4,z5]) rfl ⟨HFIN.out false rfl,HB9.out⟩
  |true=>
   cases b2 with
   |false=>
    go_wp2;refine bodyPost_ret (v:=.tuple #[.agg #[Vi 1,.bool false,Vi 0,Vi j0,Vi j1,Vi j2],.bool false]) (by simp[results,Tryz.results122,go_sem,z0,z1,z2,z3,z4,z5]) rfl ⟨HFIN.out false rfl,HB9.out⟩
   |true=>
    go_wp2;refine bodyPost_ret (v:=.tuple #[.agg #[Vi 1,.bool false,Vi 0,Vi j0,Vi j1,Vi j2],.bool false]) (by simp[results,Tryz.results122,go_sem,z0,z1,z2,z3,z4,z5]) rfl ⟨HFIN.out false rfl,HB9.out⟩
 |true=>
  cases b1 with
  |false=>
   cases b2 with
   |false=>
    go_wp2;refine bodyPost_ret (v:=.tuple #[.agg #[Vi 1,.bool false,Vi 0,Vi j0,Vi j1,Vi j2],.bool false]) (by simp[results,Tryz.results122,go_sem,z0,z1,z2,z3,z4,z5]) rfl ⟨HFIN.out false rfl,HB9.out⟩
   |true=>
    go_wp2;refine bodyPost_ret (v:=.tuple #[.agg #[Vi 1,.bool false,Vi 0,Vi j0,Vi j1,Vi j2],.bool false]) (by simp[results,Tryz.results122,go_sem,z0,z1,z2,z3,z4,z5]) rfl ⟨HFIN.out false rfl,HB9.out⟩
  |true=>
   cases b2 with
   |false=>
    go_wp2;refine bodyPost_ret (v:=.tuple #[.agg #[Vi 1,.bool false,Vi 0,Vi j0,Vi j1,Vi j2],.bool false]) (by simp[results,Tryz.results122,go_sem,z0,z1,z2,z3,z4,z5]) rfl ⟨HFIN.out false rfl,HB9.out⟩
   |true=>
    go_wp2;refine bodyPost_ret (v:=.tuple #[.agg #[Vi 1,.bool false,Vi 0,Vi j0,Vi j1,Vi j2],.bool true]) (by simp[results,Tryz.results122,go_sem,z0,z1,z2,z3,z4,z5]) rfl ⟨HFIN.out true rfl,HB9.out⟩
theorem Ms(s0 s1:ByteArray)(w:World)(hE:Env w B)(hB:B<=w.heap.size)(h0:(s0.size:Int)<=200000):
 Calls Tryz.prog 121 #[.string s0,.string s1] w fun e w'=>G6 (YR s0.data.toList s1.data.toList) e/\Below w.heap.size w w':=by
 obtain⟨RR,hRR⟩:=Ae ((YR s0.data.toList s1.data.toList));rw[hRR];have HRR:Hid ((match(if s0.data.toList=[97,110,121]then some (-1)else Bc false s0.data.toList),Di s1.data.toList with|some m,some s=>some (⟨0,s,m,0,0,0⟩:VV)|_,_=>none)=RR):=hRR;have HE:=hxy hE;clear hE hRR;go_enter Tryz.func121,Tryz.ntmps121;go_upto_region 1 with fail;obtain⟨u,hu,hb,hv⟩:∃y,w.alloc (.cells #[Vi 0,.bool false,Vi 0,Vi 0,Vi 0,Vi 0] 42)=y/\Below w.heap.size w y/\y.heap[w.heap.size]?=some (.cells #[Vi 0,.bool false,Vi 0,Vi 0,Vi 0,Vi 0] 42):=⟨_,rfl,Ak,Ai _ _⟩
 rw[hu];obtain⟨vb,hvb⟩:=Ae w.heap.size;rw[hvb]at hv⊢;have HVB:=hxy hvb;have B0:=hxy hb;have V0:=hxy hv;clear hu hb hv hvb;by_cases ha:s0.data.toList=[97,110,121]
 ·obtain⟨e1,e2⟩:=eZ (l:=s0.data.toList) (s:=s0) rfl ha
  have HA:Hid (s0.data.toList=[97,110,121]):=ha;clear ha;go_wp2_with fail;refine(EM ⟨#[112,117,98,108,105,99,32,115,101,99,114,101,116]⟩ [[112,117,98,108,105,99],[115,101,99,114,101,116]] s1 u (HE.out.below (B0.out.mono hB)) (by decide) (by decide) (by kernel_rfl) (by decide)).mono ?_;rintro e t1⟨rfl,hb1⟩;rw[XJ _ _ s1.data.toList s1 rfl];obtain⟨sv,hsv⟩:∃y:Int,(if s1.data.toList=[112,117,98,108,105,99]then(0:Int)else if s1.data.toList=[115,101,99,114,101,116]then 1 else -1)=y:=⟨_,rfl⟩
  have HSV:Hid ((0<=sv/\Di s1.data.toList=some (sv==1))∨(sv= -1/\Di s1.data.toList=none)):=(by have h:=KQ s1.data.toList;simp only at h;rw[hsv]at h;exact h:(0<=sv/\Di s1.data.toList=some (sv==1))∨(sv= -1/\Di s1.data.toList=none))
  rw[hsv];have B9:=hxy (B0.out.trans (hb1.mono B0.out.size));have V9:Hid (t1.heap[vb]?=some (.cells #[Vi 0,.bool false,Vi 0,Vi 0,Vi 0,Vi 0] 42)):=(hb1.block vb (jH.1 V0.out).1).trans V0.out;clear hsv hb1;have z0:=AV V9.out 0;have z1:=AV V9.out 1;have z2:=AV V9.out 2;have z3:=AV V9.out 3;have z4:=AV V9.out 4;have z5:=AV V9.out 5;simp only[List.getElem?_toArray,List.getElem?_cons_zero,List.getElem?_cons_succ]at z0 z1 z2 z3 z4 z5;have zf:=CQ V9.out;have HFIN:Hid (∀bb:Bool,bb=(true&&decide (0<=sv))->G6 RR (.returned (.tuple #[.agg #[Vi 0,.bool (sv==1),Vi (-1),Vi 0,Vi 0,Vi 0],.bool bb]))):=(by
   have hk:(Di s1.data.toList).isSome=decide (0<=sv):=(by
    rcases HSV.out with⟨h1,h2⟩|⟨h1,h2⟩
    ·rw[h2,decide_eq_true h1];rfl
    ·rw[h2,h1];rfl)
   have hx1:∀b,Di s1.data.toList=some b->b=(sv==1):=(fun b hb=>by
    rcases HSV.out with⟨h1,h2⟩|⟨h1,h2⟩
    ·rw[h2]at hb;exact(Option.some.inj hb).symm
    ·rw[h2]at hb;cases hb)
   rintro bb rfl;have hR:RR=(match Di s1.data.toList with|some s=>some (⟨0,s,-1,0,0,0⟩:VV)|none=>none):=by
    rw[<-HRR.out,if_pos HA.out];cases Di s1.data.toList<;>rfl
   refine⟨⟨0,(sv==1),-1,0,0,0⟩,?_,?_⟩
   ·rw[hR,<-hk]
    cases Di s1.data.toList<;>rfl
   ·intro x hx
    rw[hR]at hx;cases q:Di s1.data.toList with
    |none=>rw[q]at hx;cases hx
    |some b=>rw[q]at hx;cases hx;rw[hx1 b q]:∀bb:Bool,bb=(true&&decide (0<=sv))->G6 RR (.returned (.tuple #[.agg #[Vi 0,.bool (sv==1),Vi (-1),Vi 0,Vi 0,Vi 0],.bool bb])))
  have HB9:Hid (Below w.heap.size w (setW t1 vb 0 [Vi 0,.bool (sv==1),Vi (-1),Vi 0,Vi 0,Vi 0])):=Bv (Nat.le_of_eq HVB.out) _ _ B9.out;obtain⟨sb,hsb⟩:=Ae ((sv==1));rw[hsb]at HFIN HB9;by_cases hq:0<=sv
  ·have e7:=decide_eq_true hq
   rw[e7]at HFIN;go_wp2;refine bodyPost_ret (v:=.tuple #[.agg #[Vi 0,.bool sb,Vi (-1),Vi 0,Vi 0,Vi 0],.bool true]) (by simp[results,Tryz.results121,go_sem,z0,z1,z2,z3,z4,z5]) rfl ⟨HFIN.out true rfl,HB9.out⟩
  ·have e7:=decide_eq_false hq
   rw[e7]at HFIN;go_wp2;refine bodyPost_ret (v:=.tuple #[.agg #[Vi 0,.bool sb,Vi (-1),Vi 0,Vi 0,Vi 0],.bool false]) (by simp[results,Tryz.results121,go_sem,z0,z1,z2,z3,z4,z5]) rfl ⟨HFIN.out false rfl,HB9.out⟩
 ·obtain⟨e1,e2⟩:=eT (l:=s0.data.toList) (s:=s0) rfl ha
  have HA:Hid (¬s0.data.toList=[97,110,121]):=ha;clear ha;go_wp2_with fail;refine(Co s0 0 u (HE.out.below (B0.out.mono hB)) (by have:=B0.out.size;omega) h0).mono ?_;rintro e u1⟨j0,rfl,hj0,hb⟩;rw[gG]at hj0⊢;have B1:=hxy (B0.out.trans (hb.mono B0.out.size));have V1:Hid (u1.heap[vb]?=some (.cells #[Vi 0,.bool false,Vi 0,Vi 0,Vi 0,Vi 0] 42)):=(hb.block vb (jH.1 V0.out).1).trans V0.out;have HJ0:=hxy hj0;obtain⟨b0,hb0⟩:=Ae ((Bc false s0.data.toList).isSome);rw[hb0];have HB0:=hxy hb0;clear hb hj0 hb0;go_wp2_with fail;refine(EM ⟨#[112,117,98,108,105,99,32,115,101,99,114,101,116]⟩ [[112,117,98,108,105,99],[115,101,99,114,101,116]] s1 u1 (HE.out.below (B1.out.mono hB)) (by decide) (by decide) (by kernel_rfl) (by decide)).mono ?_;rintro e t1⟨rfl,hb1⟩;rw[XJ _ _ s1.data.toList s1 rfl];obtain⟨sv,hsv⟩:∃y:Int,(if s1.data.toList=[112,117,98,108,105,99]then(0:Int)else if s1.data.toList=[115,101,99,114,101,116]then 1 else -1)=y:=⟨_,rfl⟩
  have HSV:Hid ((0<=sv/\Di s1.data.toList=some (sv==1))∨(sv= -1/\Di s1.data.toList=none)):=(by have h:=KQ s1.data.toList;simp only at h;rw[hsv]at h;exact h:(0<=sv/\Di s1.data.toList=some (sv==1))∨(sv= -1/\Di s1.data.toList=none))
  rw[hsv];have B9:=hxy (B1.out.trans (hb1.mono B1.out.size));have V9:Hid (t1.heap[vb]?=some (.cells #[Vi 0,.bool false,Vi 0,Vi 0,Vi 0,Vi 0] 42)):=(hb1.block vb (jH.1 V1.out).1).trans V1.out;clear hsv hb1;have z0:=AV V9.out 0;have z1:=AV V9.out 1;have z2:=AV V9.out 2;have z3:=AV V9.out 3;have z4:=AV V9.out 4;have z5:=AV V9.out 5;simp only[List.getElem?_toArray,List.getElem?_cons_zero,List.getElem?_cons_succ]at z0 z1 z2 z3 z4 z5;have zf:=CQ V9.out;have HFIN:Hid (∀bb:Bool,bb=(b0&&decide (0<=sv))->G6 RR (.returned (.tuple #[.agg #[Vi 0,.bool (sv==1),Vi j0,Vi 0,Vi 0,Vi 0],.bool bb]))):=(by
   have hk:(Di s1.data.toList).isSome=decide (0<=sv):=(by
    rcases HSV.out with⟨h1,h2⟩|⟨h1,h2⟩
    ·rw[h2,decide_eq_true h1];rfl
    ·rw[h2,h1];rfl)
   have hx1:∀b,Di s1.data.toList=some b->b=(sv==1):=(fun b hb=>by
    rcases HSV.out with⟨h1,h2⟩|⟨h1,h2⟩
    ·rw[h2]at hb;exact(Option.some.inj hb).symm
    ·rw[h2]at hb;cases hb)
   rintro bb rfl;have hR:RR=(match Bc false s0.data.toList,Di s1.data.toList with|some m,some s=>some (⟨0,s,m,0,0,0⟩:VV)|_,_=>none):=by
    rw[<-HRR.out,if_neg HA.out]
   refine⟨⟨0,(sv==1),j0,0,0,0⟩,?_,?_⟩
   ·rw[hR,<-hk,<-HB0.out]
    cases Bc false s0.data.toList<;>cases Di s1.data.toList<;>rfl
   ·intro x hx
    rw[hR]at hx;cases q0:Bc false s0.data.toList with
    |none=>rw[q0]at hx;cases hx
    |some a=>cases q:Di s1.data.toList with
     |none=>rw[q0,q]at hx;cases hx
     |some b=>rw[q0,q]at hx;cases hx;rw[hx1 b q,HJ0.out a q0]:∀bb:Bool,bb=(b0&&decide (0<=sv))->G6 RR (.returned (.tuple #[.agg #[Vi 0,.bool (sv==1),Vi j0,Vi 0,Vi 0,Vi 0],.bool bb])))
  have HB9:Hid (Below w.heap.size w (setW t1 vb 0 [Vi 0,.bool (sv==1),Vi j0,Vi 0,Vi 0,Vi 0])):=Bv (Nat.le_of_eq HVB.out) _ _ B9.out;obtain⟨sb,hsb⟩:=Ae ((sv==1));rw[hsb]at HFIN HB9;by_cases hq:0<=sv
  ·have e7:=decide_eq_true hq
   rw[e7]at HFIN;cases b0 with
   |false=>
    go_wp2;refine bodyPost_ret (v:=.tuple #[.agg #[Vi 0,.bool sb,Vi j0,Vi 0,Vi 0,Vi 0],.bool false]) (by simp[results,Tryz.results121,go_sem,z0,z1,z2,z3,z4,z5]) rfl ⟨HFIN.out false rfl,HB9.out⟩
   |true=>
    go_wp2;refine bodyPost_ret (v:=.tuple #[.agg #[Vi 0,.bool sb,Vi j0,Vi 0,Vi 0,Vi 0],.bool true]) (by simp[results,Tryz.results121,go_sem,z0,z1,z2,z3,z4,z5]) rfl ⟨HFIN.out true rfl,HB9.out⟩
  ·have e7:=decide_eq_false hq
   rw[e7]at HFIN;cases b0 with
   |false=>
    go_wp2;refine bodyPost_ret (v:=.tuple #[.agg #[Vi 0,.bool sb,Vi j0,Vi 0,Vi 0,Vi 0],.bool false]) (by simp[results,Tryz.results121,go_sem,z0,z1,z2,z3,z4,z5]) rfl ⟨HFIN.out false rfl,HB9.out⟩
   |true=>
    go_wp2;refine bodyPost_ret (v:=.tuple #[.agg #[Vi 0,.bool sb,Vi j0,Vi 0,Vi 0,Vi 0],.bool false]) (by simp[results,Tryz.results121,go_sem,z0,z1,z2,z3,z4,z5]) rfl ⟨HFIN.out false rfl,HB9.out⟩
def GC(w:World)(fb o:Nat)(g:List (List UInt8)):Prop:=fb<w.heap.size/\∀i,i<g.length->w.cell? (Va fb (o+i))=some (.string (Ck (fd g i)))
theorem GC.below{w':World}{fb o:Nat}{g:List (List UInt8)}(h:GC w fb o g)(hb:Below B w w')(hf:fb<B):GC w' fb o g:=⟨jI h.1 hb.size,fun i hi=>(hb.cell (p:=Va fb (o+i)) hf).trans (h.2 i hi)⟩
theorem FA.gc{fb:Nat}{f:List (List UInt8)}(h:FA w fb f)(o:Nat):GC w fb o (f.drop o):=by
 obtain⟨cur,h1,h2⟩:=h.c;refine⟨(jH.1 h1).1,fun i hi=>?_⟩;rw[List.length_drop]at hi;rw[h.cell (o+i) (by omega)];simp[fd]
theorem Ra(g:List (List UInt8))(fb o gc:Nat)(w:World)(hE:Env w B)(hB:B<=w.heap.size)(hg:GC w fb o g)(hl:∀i,((Ck (fd g i)).size:Int)<=200000):
 Calls Tryz.prog 88 #[.slice (some ⟨fb,o,none⟩) g.length gc] w fun e w'=>G6 (FK g) e/\Below w.heap.size w w':=by
 obtain⟨RR,hRR⟩:=Ae (FK g);rw[hRR];have HRR:=hxy hRR;have HE:=hxy hE;have HL:=hxy hl;have hfw:=hg.1;clear hE hRR hl;go_enter Tryz.func88,Tryz.ntmps88;go_upto_region 1 with fail;obtain⟨u,hu,hb,hv⟩:∃y,w.alloc (.cells #[Vi 0,.bool false,Vi 0,Vi 0,Vi 0,Vi 0] 42)=y/\Below w.heap.size w y/\y.heap[w.heap.size]?=some (.cells #[Vi 0,.bool false,Vi 0,Vi 0,Vi 0,Vi 0] 42):=⟨_,rfl,Ak,Ai _ _⟩
 rw[hu];obtain⟨vb,hvb⟩:=Ae w.heap.size;rw[hvb]at hv⊢;have HVB:=hxy hvb;have hfv:fb<vb:=by omega
 have B0:=hxy hb;have V0:=hxy hv;have G0:Hid (GC u fb o g):=hg.below hb (by omega);clear hu hb hv hvb hg;by_cases h2:g.length=2
 ·have e1:((g.length:Int)==2)=true:=by rw[beq_iff_eq];omega
  have i0:0<g.length:=by omega
  have i1:(1:Int)<(g.length:Int):=by omega
  have H2:=hxy h2;have HD:Hid (FK g=(YR (fd g 0) (fd g 1))):=(by unfold FK;rw[if_pos h2];rfl:FK g=(YR (fd g 0) (fd g 1)))
  clear h2;go_upto_region 2 with fail;have r0:∀w':World,GC w' fb o g->w'.cell? (Va fb o)=some (.string (Ck (fd g 0))):=fun w' h=>h.2 0 (by have:=H2.out;omega)
  have r1:∀w':World,GC w' fb o g->w'.cell? (Va fb (o+1))=some (.string (Ck (fd g 1))):=fun w' h=>h.2 1 (by have:=H2.out;omega)
  refine BF (T:=fun w'=>GC w' fb o g) (s:=10) (by kernel_rfl) (G0.out.below (Below.refl _ _).drew (by have:=B0.out.size;omega)) (fun hHeld=>?_);have BD:Hid (Below w.heap.size w u.drew):=B0.out.trans ((Below.refl _ _).drew.mono B0.out.size);have VD:Hid (u.drew.heap[vb]?=some (.cells #[Vi 0,.bool false,Vi 0,Vi 0,Vi 0,Vi 0] 42)):=V0.out;clear B0 V0 G0;generalize u.drew=t0 at hHeld BD VD⊢;refine AJ 0 rfl ?_;refine AJ 1 rfl ?_;refine AJ 2 rfl ?_;refine AJ 3 rfl ?_;refine AJ 4 rfl ?_;refine AJ 5 rfl ?_;refine Aq (i:=6) rfl (by kernel_rfl) (fun KK hK=>?_);go_simp;refine(Ms (Ck (fd g 0)) (Ck (fd g 1)) t0 (HE.out.below (BD.out.mono hB)) (by have:=BD.out.size;omega) (HL.out 0)).mono ?_;rintro e t1⟨⟨⟨xk,xs,xm,xh,xl,xi⟩,rfl,hv⟩,hb⟩;simp only[Jh]at hv⊢;have HV:=hxy hv;obtain⟨ok,hok⟩:=Ae (Option.isSome (YR (fd g 0) (fd g 1)));rw[hok];have HOK:=hxy hok;have B1:=hxy (BD.out.trans (hb.mono BD.out.size));have V1:Hid (t1.heap[vb]?=some (.cells #[Vi 0,.bool false,Vi 0,Vi 0,Vi 0,Vi 0] 42)):=(hb.block vb (jH.1 VD.out).1).trans VD.out;have G1:GC t1 fb o g:=hHeld.below hb (by have:=BD.out.size;omega);clear hb hv hok BD VD;dsimp only[VV.v];refine hK.out _ _ G1 (fun hHeld1=>?_);clear hK KK;try simp only[Act.put,BP,BN,BK,BQ,BS,BM]
  refine AJ 7 rfl ?_;refine AJ 8 rfl ?_;have z0:=AV V1.out 0;have z1:=AV V1.out 1;have z2:=AV V1.out 2;have z3:=AV V1.out 3;have z4:=AV V1.out 4;have z5:=AV V1.out 5;simp only[List.getElem?_toArray,List.getElem?_cons_zero,List.getElem?_cons_succ]at z0 z1 z2 z3 z4 z5;have zf:=CQ V1.out;refine Aq (i:=9) rfl (by kernel_rfl) (fun KK hK=>?_);go_simp;have B2:Hid (Below w.heap.size w (setW t1 vb 0 [Vi xk,.bool xs,Vi xm,Vi xh,Vi xl,Vi xi])):=Bv (Nat.le_of_eq HVB.out) _ _ B1.out;have V2:Hid ((setW t1 vb 0 [Vi xk,.bool xs,Vi xm,Vi xh,Vi xl,Vi xi]).heap[vb]?=some (.cells #[Vi xk,.bool xs,Vi xm,Vi xh,Vi xl,Vi xi] 42)):=OG V1.out;have G2:GC (setW t1 vb 0 [Vi xk,.bool xs,Vi xm,Vi xh,Vi xl,Vi xi]) fb o g:=G1.below (Bv (Nat.le_refl vb) _ _ (Below.refl _ _)) hfv;refine hK.out _ _ G2 (fun hHeld2=>?_);clear hK KK z0 z1 z2 z3 z4 z5 zf
  try simp only[Act.put,BP,BN,BK,BQ,BS,BM]
  change wpAnyL _ _ _ _ _ _ _ _ _ (setW t1 vb 0 [Vi xk,.bool xs,Vi xm,Vi xh,Vi xl,Vi xi])
  generalize setW t1 vb 0 [Vi xk,.bool xs,Vi xm,Vi xh,Vi xl,Vi xi]=t2 at B2 V2⊢
  refine A7 rfl (by kernel_rfl) (by kernel_rfl) (fun KK hK=>?_)
  go_simp
  refine hK.out _ _ ?_
  clear hK KK
  have z0:=AV V2.out 0
  have z1:=AV V2.out 1
  have z2:=AV V2.out 2
  have z3:=AV V2.out 3
  have z4:=AV V2.out 4
  have z5:=AV V2.out 5
  simp only[List.getElem?_toArray,List.getElem?_cons_zero,List.getElem?_cons_succ]at z0 z1 z2 z3 z4 z5
  have zf:=CQ V2.out;have HFIN:Hid (G6 RR (.returned (.tuple #[.agg #[Vi xk,.bool xs,Vi xm,Vi xh,Vi xl,Vi xi],.bool ok]))):=(by rw[<-HRR.out,HD.out,<-HOK.out];exact⟨⟨xk,xs,xm,xh,xl,xi⟩,rfl,fun x hx=>HV.out x hx⟩:G6 RR (.returned (.tuple #[.agg #[Vi xk,.bool xs,Vi xm,Vi xh,Vi xl,Vi xi],.bool ok])))
  go_wp2
  refine bodyPost_ret (v:=.tuple #[.agg #[Vi xk,.bool xs,Vi xm,Vi xh,Vi xl,Vi xi],.bool ok]) (by simp[results,Tryz.results88,go_sem,z0,z1,z2,z3,z4,z5]) rfl ⟨HFIN.out,B2.out⟩
 ·have e1:((g.length:Int)==2)=false:=by rw[beq_eq_false_iff_ne];omega
  by_cases h4:g.length=4
  rotate_left
  ·have e2:((g.length:Int)==4)=false:=by rw[beq_eq_false_iff_ne];omega
   have HX:Hid (¬g.length=2/\¬(g.length=4/\fd g 0=[112,116,114])):=⟨h2,fun h=>h4 h.1⟩
   clear h2 h4
   have HN:Hid (RR=none):=(by rw[<-HRR.out];unfold FK;rw[if_neg HX.out.1,if_neg HX.out.2]:RR=none)
   have z0:=AV V0.out 0
   have z1:=AV V0.out 1
   have z2:=AV V0.out 2
   have z3:=AV V0.out 3
   have z4:=AV V0.out 4
   have z5:=AV V0.out 5
   simp only[List.getElem?_toArray,List.getElem?_cons_zero,List.getElem?_cons_succ]at z0 z1 z2 z3 z4 z5
   have zf:=CQ V0.out
   have HFIN:Hid (G6 RR (.returned (.tuple #[.agg #[Vi 0,.bool false,Vi 0,Vi 0,Vi 0,Vi 0],.bool false]))):=(by rw[HN.out];exact⟨⟨0,false,0,0,0,0⟩,rfl,fun x hx=>by cases hx⟩:G6 RR (.returned (.tuple #[.agg #[Vi 0,.bool false,Vi 0,Vi 0,Vi 0,Vi 0],.bool false])))
   have HB9:Hid (Below w.heap.size w (setW u vb 0 [Vi 0,.bool false,Vi 0,Vi 0,Vi 0,Vi 0])):=Bv (Nat.le_of_eq HVB.out) _ _ B0.out
   go_wp2
   refine bodyPost_ret (v:=.tuple #[.agg #[Vi 0,.bool false,Vi 0,Vi 0,Vi 0,Vi 0],.bool false]) (by simp[results,Tryz.results88,go_sem,z0,z1,z2,z3,z4,z5]) rfl ⟨HFIN.out,HB9.out⟩
  have e2:((g.length:Int)==4)=true:=by rw[beq_iff_eq];omega
  have i0:0<g.length:=by omega
  have i1:(1:Int)<(g.length:Int):=by omega
  have i2:(2:Int)<(g.length:Int):=by omega
  have i3:(3:Int)<(g.length:Int):=by omega
  have H2:=hxy h4
  have H3:=hxy h2
  clear h4 h2
  have g0:u.cell? (Va fb o)=some (.string (Ck (fd g 0))):=G0.out.2 0 (by have:=H2.out;omega)
  by_cases hp:fd g 0=[112,116,114]
  rotate_left
  ·obtain⟨e4,e5⟩:=eT (s:=Ck (fd g 0)) rfl hp
   have HX:Hid (¬(g.length=4/\fd g 0=[112,116,114])):=fun h=>hp h.2
   clear hp
   have HN:Hid (RR=none):=(by rw[<-HRR.out];unfold FK;rw[if_neg H3.out,if_neg HX.out]:RR=none)
   have z0:=AV V0.out 0
   have z1:=AV V0.out 1
   have z2:=AV V0.out 2
   have z3:=AV V0.out 3
   have z4:=AV V0.out 4
   have z5:=AV V0.out 5
   simp only[List.getElem?_toArray,List.getElem?_cons_zero,List.getElem?_cons_succ]at z0 z1 z2 z3 z4 z5
   have zf:=CQ V0.out
   have HFIN:Hid (G6 RR (.returned (.tuple #[.agg #[Vi 0,.bool false,Vi 0,Vi 0,Vi 0,Vi 0],.bool false]))):=(by rw[HN.out];exact⟨⟨0,false,0,0,0,0⟩,rfl,fun x hx=>by cases hx⟩:G6 RR (.returned (.tuple #[.agg #[Vi 0,.bool false,Vi 0,Vi 0,Vi 0,Vi 0],.bool false])))
   have HB9:Hid (Below w.heap.size w (setW u vb 0 [Vi 0,.bool false,Vi 0,Vi 0,Vi 0,Vi 0])):=Bv (Nat.le_of_eq HVB.out) _ _ B0.out
   go_wp2
   refine bodyPost_ret (v:=.tuple #[.agg #[Vi 0,.bool false,Vi 0,Vi 0,Vi 0,Vi 0],.bool false]) (by simp[results,Tryz.results88,go_sem,z0,z1,z2,z3,z4,z5]) rfl ⟨HFIN.out,HB9.out⟩
  obtain⟨e4,e5⟩:=eZ (s:=Ck (fd g 0)) rfl hp
  have HD:Hid (FK g=(Xk (fd g 1) (fd g 2) (fd g 3))):=(by unfold FK;rw[if_neg H3.out,if_pos ⟨H2.out,hp⟩];rfl:FK g=(Xk (fd g 1) (fd g 2) (fd g 3)))
  clear hp
  go_upto_region 4 with fail
  clear g0
  have r1:∀w':World,GC w' fb o g->w'.cell? (Va fb (o+1))=some (.string (Ck (fd g 1))):=fun w' h=>h.2 1 (by have:=H2.out;omega)
  have r2:∀w':World,GC w' fb o g->w'.cell? (Va fb (o+2))=some (.string (Ck (fd g 2))):=fun w' h=>h.2 2 (by have:=H2.out;omega)
  have r3:∀w':World,GC w' fb o g->w'.cell? (Va fb (o+3))=some (.string (Ck (fd g 3))):=fun w' h=>h.2 3 (by have:=H2.out;omega)
  refine BF (T:=fun w'=>GC w' fb o g) (s:=13) (by kernel_rfl) (G0.out.below (Below.refl _ _).drew (by have:=B0.out.size;omega)) (fun hHeld=>?_)
  have BD:Hid (Below w.heap.size w u.drew):=B0.out.trans ((Below.refl _ _).drew.mono B0.out.size)
  have VD:Hid (u.drew.heap[vb]?=some (.cells #[Vi 0,.bool false,Vi 0,Vi 0,Vi 0,Vi 0] 42)):=V0.out
  clear B0 V0 G0
  generalize u.drew=t0 at hHeld BD VD⊢
  refine AJ 0 rfl ?_
  refine AJ 1 rfl ?_
  refine AJ 2 rfl ?_
  refine AJ 3 rfl ?_
  refine AJ 4 rfl ?_
  refine AJ 5 rfl ?_
  refine AJ 6 rfl ?_
  refine AJ 7 rfl ?_
  refine AJ 8 rfl ?_
  refine Aq (i:=9) rfl (by kernel_rfl) (fun KK hK=>?_)
  go_simp
  refine(Li (Ck (fd g 1)) (Ck (fd g 2)) (Ck (fd g 3)) t0 (HE.out.below (BD.out.mono hB)) (by have:=BD.out.size;omega) (HL.out 1) (HL.out 2) (HL.out 3)).mono ?_
  rintro e t1⟨⟨⟨xk,xs,xm,xh,xl,xi⟩,rfl,hv⟩,hb⟩
  simp only[Jh]at hv⊢
  have HV:=hxy hv
  obtain⟨ok,hok⟩:=Ae (Option.isSome (Xk (fd g 1) (fd g 2) (fd g 3)))
  rw[hok]
  have HOK:=hxy hok
  have B1:=hxy (BD.out.trans (hb.mono BD.out.size))
  have V1:Hid (t1.heap[vb]?=some (.cells #[Vi 0,.bool false,Vi 0,Vi 0,Vi 0,Vi 0] 42)):=(hb.block vb (jH.1 VD.out).1).trans VD.out
  have G1:GC t1 fb o g:=hHeld.below hb (by have:=BD.out.size;omega)
  clear hb hv hok BD VD
  dsimp only[VV.v]
  refine hK.out _ _ G1 (fun hHeld1=>?_)
  clear hK KK
  try simp only[Act.put,BP,BN,BK,BQ,BS,BM]
  refine AJ 10 rfl ?_
  refine AJ 11 rfl ?_
  have z0:=AV V1.out 0
  have z1:=AV V1.out 1
  have z2:=AV V1.out 2
  have z3:=AV V1.out 3
  have z4:=AV V1.out 4
  have z5:=AV V1.out 5
  simp only[List.getElem?_toArray,List.getElem?_cons_zero,List.getElem?_cons_succ]at z0 z1 z2 z3 z4 z5
  have zf:=CQ V1.out
  refine Aq (i:=12) rfl (by kernel_rfl) (fun KK hK=>?_)
  go_simp
  have B2:Hid (Below w.heap.size w (setW t1 vb 0 [Vi xk,.bool xs,Vi xm,Vi xh,Vi xl,Vi xi])):=Bv (Nat.le_of_eq HVB.out) _ _ B1.out
  have V2:Hid ((setW t1 vb 0 [Vi xk,.bool xs,Vi xm,Vi xh,Vi xl,Vi xi]).heap[vb]?=some (.cells #[Vi xk,.bool xs,Vi xm,Vi xh,Vi xl,Vi xi] 42)):=OG V1.out
  have G2:GC (setW t1 vb 0 [Vi xk,.bool xs,Vi xm,Vi xh,Vi xl,Vi xi]) fb o g:=G1.below (Bv (Nat.le_refl vb) _ _ (Below.refl _ _)) hfv
  refine hK.out _ _ G2 (fun hHeld2=>?_)
  clear hK KK z0 z1 z2 z3 z4 z5 zf
  try simp only[Act.put,BP,BN,BK,BQ,BS,BM]
  change wpAnyL _ _ _ _ _ _ _ _ _ (setW t1 vb 0 [Vi xk,.bool xs,Vi xm,Vi xh,Vi xl,Vi xi])
  generalize setW t1 vb 0 [Vi xk,.bool xs,Vi xm,Vi xh,Vi xl,Vi xi]=t2 at B2 V2⊢
  refine A7 rfl (by kernel_rfl) (by kernel_rfl) (fun KK hK=>?_)
  go_simp
  refine hK.out _ _ ?_
  clear hK KK
  have z0:=AV V2.out 0
  have z1:=AV V2.out 1
  have z2:=AV V2.out 2
  have z3:=AV V2.out 3
  have z4:=AV V2.out 4
  have z5:=AV V2.out 5
  simp only[List.getElem?_toArray,List.getElem?_cons_zero,List.getElem?_cons_succ]at z0 z1 z2 z3 z4 z5
  have zf:=CQ V2.out;have HFIN:Hid (G6 RR (.returned (.tuple #[.agg #[Vi xk,.bool xs,Vi xm,Vi xh,Vi xl,Vi xi],.bool ok]))):=(by rw[<-HRR.out,HD.out,<-HOK.out];exact⟨⟨xk,xs,xm,xh,xl,xi⟩,rfl,fun x hx=>HV.out x hx⟩:G6 RR (.returned (.tuple #[.agg #[Vi xk,.bool xs,Vi xm,Vi xh,Vi xl,Vi xi],.bool ok])))
  go_wp2
  refine bodyPost_ret (v:=.tuple #[.agg #[Vi xk,.bool xs,Vi xm,Vi xh,Vi xl,Vi xi],.bool ok]) (by simp[results,Tryz.results88,go_sem,z0,z1,z2,z3,z4,z5]) rfl ⟨HFIN.out,B2.out⟩
theorem PR.setR{g c n:Nat}{S:PS}{rb sb nb ob mf km:Nat}{sH sP sO:Sl}{m:Nat}{bv:List Value}{v:VV}(h:PR w B S rb sb nb ob mf km sH ⟨some ⟨g,0,none⟩,m,c⟩ sP sO bv)(hn:n<8)(hB:B<=w.heap.size):
 PR (setW w g (n*6) (Qe v)) B {S with rg:=S.rg.set n v} rb sb nb ob mf km sH ⟨some ⟨g,0,none⟩,m,c⟩ sP sO bv/\Fm GL B w (setW w g (n*6) (Qe v)):=by
 have ho:w.ownsRow B 42 6 (Vs g m c) S.rg.length (S.rg.flatMap Qe):=h.R.own 2 _ rfl;have hm:=Ki ho;subst hm;obtain⟨s1,s2⟩:=L8 (Qe v) w _ (n*6) ho;rw[Uu Qe 6 (fun _=>rfl) S.rg n v (by rw[h.I.rg];exact hn)]at s1;have f:Fm GL B w (setW w g (n*6) (Qe v)):=Fm.of_grow ho jG s2 hB (by decide);obtain⟨h1,h2,h3,h4,h5,h6,h7⟩:=h.pk.fm f;refine⟨⟨GR h.C ho (by decide) s2,?_,h.L,⟨h.I.st,h.I.d,h.I.hs,by show(S.rg.set n v).length=8;rw[List.length_set];exact h.I.rg,h.I.gv,h.I.ps,h.I.op,h.I.ol,h.I.od⟩,h1,h2,h3,h4,h5,h6,h7⟩,f⟩;have q:=h.R.grow (j:=2) (r:=⟨42,6,Vs g S.rg.length c,S.rg.length,S.rg.flatMap Qe⟩) (r':=⟨42,6,Vs g S.rg.length c,(S.rg.set n v).length,(S.rg.set n v).flatMap Qe⟩) rfl s2 (by unfold Rw.own;rw[List.length_set];exact s1) (.inl rfl);exact q
theorem PR.regs{S:PS}{rb sb nb ob mf km:Nat}{sH sR sP sO:Sl}{bv:List Value}(h:PR w B S rb sb nb ob mf km sH sR sP sO bv):∃gR:Nat,sR.a=some ⟨gR,0,none⟩/\sR.n=8/\(∀i,w.frozen? (Va gR i)=false)/\(∀i,i<48->∃v,w.cell? (Va gR i)=some v)/\gR<w.heap.size:=by
 have hR:w.ownsRow B 42 6 (.slice sR.a sR.n sR.c) S.rg.length (S.rg.flatMap Qe):=h.R.own 2 _ rfl;rw[h.I.rg]at hR;obtain⟨gR,cR,e1,_,l1,_⟩:=H7 hR (by omega);injection e1 with a1 a2 a3;rw[a1,a2]at hR;refine⟨gR,a1,a2,fun i=>hR.frozenAt i,fun i hi=>?_,l1⟩;rw[hR.cellAt i (by omega),List.getElem?_eq_getElem (by rw[hR.1];omega)];exact⟨_,rfl⟩
theorem Zw(S:PS)(f:List (List UInt8))(h0:S.st=1∨S.st=2)(h2:2<=f.length){k:Nat}(hn:Bc false (fd f 1)=some (k:Int))(hk:k<8)(hg:S.gv.getD k false=false):JQ S f=(FK (f.drop 2)).map fun v=>{S with st:=2,rg:=S.rg.set k v,gv:=S.gv.set k true}:=by
 unfold JQ;rw[if_pos ⟨h0,h2⟩,hn];simp only[Int.toNat_natCast];rw[if_pos ⟨by omega,hg⟩]
theorem Ta(S:PS)(f:List (List UInt8))(h:∀k:Nat,Bc false (fd f 1)=some (k:Int)->¬(k<8/\S.gv.getD k false=false))(hp:∀v,Bc false (fd f 1)=some v->0<=v):JQ S f=none:=by
 unfold JQ;split
 ·cases hn:Bc false (fd f 1)with
  |none=>rfl
  |some v=>
   have h0:=hp v hn;obtain⟨k,rfl⟩:=Int.eq_ofNat_of_zero_le h0;have:=h k hn;simp only[Int.toNat_natCast];rw[if_neg (fun q=>this ⟨by omega,q.2⟩)]
 ·rfl
theorem SF(B:Nat)(S:PS)(rb sb nb ob mf km:Nat)(sH sR sP sO:Sl)(bv:List Value)(f:List (List UInt8))(fb fc:Nat)(w:World)(hB:B<=w.heap.size)(hm:PR w B S rb sb nb ob mf km sH sR sP sO bv)(hf:FA w fb f)(hl:∀i,((Ck (fd f i)).size:Int)<=200000)(hbd:Ie S 100000)(hfc:f.length<=fc):
 Calls Tryz.prog 55 #[Vq rb,Vs fb f.length fc] w fun e w'=>PA B w rb sb nb ob mf km (JQ S f) e w':=by
 obtain⟨RR,hRR⟩:=Ae (JQ S f);rw[hRR];have HRR:=hxy hRR;have M:=hxy hm;have HBD:=hxy hbd;have HL:=hxy hl;have HF:=hxy hf;have hz:rb<w.heap.size:=(jH.1 hm.C).1;have hBb:=hm.b;obtain⟨c0,c1,c2,c3,c4,c13,c14,c15,c5,cf⟩:=hm.cells;have HC5:=hxy c5;clear hm hf hl hRR c5 hbd;go_enter Tryz.func55,Tryz.ntmps55;by_cases h2:2<=f.length
 rotate_left
 ·have e3:decide ((f.length:Int)<2)=true:=decide_eq_true (by omega)
  have HN:Hid (RR=none):=(by rw[<-HRR.out];unfold JQ;rw[if_neg (fun h=>h2 h.2)]:RR=none)
  clear h2;by_cases h0:S.st=1
  ·have e1:((S.st:Int) !=1)=false:=by rw[bne_eq_false_iff_eq];omega
   clear h0;go_wp2_with fail;go_ret;rw[HN.out];exact⟨Fm.refl _ _ _,rfl,fun _ h=>(by cases h)⟩
  ·have e1:((S.st:Int) !=1)=true:=by rw[bne_iff_ne];omega
   clear h0;by_cases h0:S.st=2
   ·have e2:((S.st:Int) !=2)=false:=by rw[bne_eq_false_iff_eq];omega
    clear h0;go_wp2_with fail;go_ret;rw[HN.out];exact⟨Fm.refl _ _ _,rfl,fun _ h=>(by cases h)⟩
   ·have e2:((S.st:Int) !=2)=true:=by rw[bne_iff_ne];omega
    clear h0;go_wp2_with fail;go_ret;rw[HN.out];exact⟨Fm.refl _ _ _,rfl,fun _ h=>(by cases h)⟩
 have e3:decide ((f.length:Int)<2)=false:=decide_eq_false (by omega);have e4:(1:Int)<(f.length:Int):=by omega
 have H2:=hxy h2;clear h2;obtain⟨s1,hs1⟩:=Ae (Ck (fd f 1));have g1:w.cell? (Va fb 1)=some (.string s1):=(HF.out.cell 1 (by have:=H2.out;omega)).trans (by rw[hs1]);have hz1:(s1.size:Int)<=200000:=by rw[<-hs1];exact HL.out 1
 have HW:Hid (rdNum 0 s1.data.toList=Bc false (fd f 1)):=(by rw[<-hs1,show(0:Int)=(if false=true then -9999999999999 else 0)from rfl,FQ];simp[Ck]:rdNum 0 s1.data.toList=Bc false (fd f 1))
 clear hs1;by_cases h0:S.st=1∨S.st=2
 rotate_left
 ·have e1:((S.st:Int) !=1)=true:=by rw[bne_iff_ne];omega
  have e2:((S.st:Int) !=2)=true:=by rw[bne_iff_ne];omega
  have HN:Hid (RR=none):=(by rw[<-HRR.out];unfold JQ;rw[if_neg (fun h=>h0 h.1)]:RR=none)
  clear h0;go_wp2_with fail;go_ret;rw[HN.out];exact⟨Fm.refl _ _ _,rfl,fun _ h=>(by cases h)⟩
 have H0:=hxy h0;clear h0;go_upto_region 1 with fail;go_cut [23](fun s23 wx=>s23=.bool false/\wx=w)
 case first=>
  by_cases h0:S.st=1
  ·have e1:((S.st:Int) !=1)=false:=by rw[bne_eq_false_iff_eq];omega
   clear h0;go_wp2_with fail;go_meet;exact⟨rfl,rfl⟩
  ·have e1:((S.st:Int) !=1)=true:=by rw[bne_iff_ne];omega
   have e2:((S.st:Int) !=2)=false:=by rw[bne_eq_false_iff_eq];have:=H0.out;omega
   clear h0;go_wp2_with fail;go_meet;exact⟨rfl,rfl⟩
 case rest=>
  obtain⟨rfl,hw⟩:=hcut;rw[hw];clear hw;go_wp2_with fail;refine(Co s1 0 w M.out.E hB hz1).mono ?_;rintro e u⟨j,rfl,hj,hb⟩;rw[HW.out]at hj⊢;have M1:=hxy (M.out.below hb);have F1:Hid (Fm GL B w u):=Fm.of_below hb hB;have A1:=hxy (HF.out.below hb);have hBu:B<=u.heap.size:=by have:=hb.size;omega
  have HP:Hid (∀v,Bc false (fd f 1)=some v->0<=v):=(fun v hv=>by simpa using(OJ hv).1:∀v,Bc false (fd f 1)=some v->0<=v)
  clear hb c0 c1 c2 c3 c4 c13 c14 c15 cf g1 HC5 M HF;cases hn:Bc false (fd f 1)with
  |none=>
   have HN:Hid (RR=none):=(by rw[<-HRR.out];exact Ta S f (fun k hk=>by rw[hn]at hk;cases hk) HP.out:RR=none)
   clear hn hj;simp only[Option.isSome_none];go_wp2_with fail;go_ret;rw[HN.out];exact⟨F1.out,rfl,fun _ h=>(by cases h)⟩
  |some v=>
   have hv:=hj v hn;subst hv;simp only[Option.isSome_some];have h0:=HP.out j hn;obtain⟨k,rfl⟩:=Int.eq_ofNat_of_zero_le h0;have HNK:=hxy hn;clear hj hn h0;by_cases hk:k<8
   rotate_left
   ·have e5:decide ((8:Int)<=(k:Int))=true:=decide_eq_true (by omega)
    have HN:Hid (RR=none):=(by rw[<-HRR.out];exact Ta S f (fun k' hk' h=>by rw[HNK.out]at hk';have:=Int.ofNat.inj (Option.some.inj hk');omega) HP.out:RR=none)
    clear hk;go_wp2_with fail;go_ret;rw[HN.out];exact⟨F1.out,rfl,fun _ h=>(by cases h)⟩
   have e5:decide ((8:Int)<=(k:Int))=false:=decide_eq_false (by omega);have i5:(k:Int)<8:=by omega
   obtain⟨c0,c1,c2,c3,c4,c13,c14,c15,c5,cf⟩:=M1.out.cells;have gk:=c5 k hk;obtain⟨gb,hgb⟩:=Ae (S.gv.getD k false);rw[hgb]at gk;have HGB:=hxy hgb;clear hgb c5;cases gb with
   |true=>
    have HN:Hid (RR=none):=(by rw[<-HRR.out];exact Ta S f (fun k' hk' h=>by rw[HNK.out]at hk';have:=Int.ofNat.inj (Option.some.inj hk');subst this;rw[HGB.out]at h;cases h.2) HP.out:RR=none)
    go_wp2_with fail;go_ret;rw[HN.out];exact⟨F1.out,rfl,fun _ h=>(by cases h)⟩
   |false=>
    have HU:Hid (RR=(FK (f.drop 2)).map fun v=>{S with st:=2,rg:=S.rg.set k v,gv:=S.gv.set k true}):=(by rw[<-HRR.out];exact Zw S f H0.out H2.out HNK.out hk HGB.out:RR=(FK (f.drop 2)).map fun v=>{S with st:=2,rg:=S.rg.set k v,gv:=S.gv.set k true})
    go_upto_region 7 with fail;obtain⟨m2,f2⟩:=PR.set (S':={S with st:=2}) (v:=Vi 2) M1.out.C (Lv S sH sR sP sO sb km 2) M1.out.R M1.out.L ⟨by show 2<=3;omega,M1.out.I.d,M1.out.I.hs,M1.out.I.rg,M1.out.I.gv,fun h'=>absurd h' (by decide:¬2=3),fun _=>M1.out.I.op (by have:=H0.out;omega),M1.out.I.ol,M1.out.I.od⟩ M1.out.pk;have M2:=hxy m2;have F2:=hxy (F1.out.trans f2);have A2:Hid (FA (u.setCell (Va rb 4) (Vi 2)) fb f):=A1.out.fm f2 (by decide);have hB2:B<=(u.setCell (Va rb 4) (Vi 2)).heap.size:=by have:=f2.b.size;omega
    clear m2 f2 c0 c1 c2 c3 c4 c13 c14 c15 cf gk M1 F1 A1 hBu;generalize u.setCell (Va rb 4) (Vi 2)=u2 at M2 F2 A2 hB2⊢;obtain⟨c0,c1,c2,c3,c4,c13,c14,c15,c5,cf⟩:=M2.out.cells;have gk:=c5 k hk;clear c5;go_upto_region 8 with fail;obtain⟨m3,f3⟩:=PR.set (S':={S with st:=2,gv:=S.gv.set k true}) (v:=.bool true) M2.out.C (Xc {S with st:=2} sH sR sP sO sb km k M2.out.I.gv hk) M2.out.R M2.out.L ⟨M2.out.I.st,M2.out.I.d,M2.out.I.hs,M2.out.I.rg,by show(S.gv.set k true).length=8;rw[List.length_set];exact M2.out.I.gv,M2.out.I.ps,M2.out.I.op,M2.out.I.ol,M2.out.I.od⟩ M2.out.pk;have M3:=hxy m3;have F3:=hxy (F2.out.trans f3);have A3:Hid (FA (u2.setCell (Va rb (5+k)) (.bool true)) fb f):=A2.out.fm f3 (by decide);have hB3:B<=(u2.setCell (Va rb (5+k)) (.bool true)).heap.size:=by have:=f3.b.size;omega
    clear m3 f3 c0 c1 c2 c3 c4 c13 c14 c15 cf gk M2 F2 A2 hB2;generalize u2.setCell (Va rb (5+k)) (.bool true)=u3 at M3 F3 A3 hB3⊢;obtain⟨S3,hS3⟩:=Ae ({S with st:=2,gv:=S.gv.set k true});rw[hS3]at M3;have HS3:=hxy hS3;clear hS3;obtain⟨gR,ra,rn,rf,rc,rl⟩:=M3.out.regs;obtain⟨sRa,sRn,cR⟩:=sR;simp only at ra rn;subst ra rn;have MD:Hid (PR u3.drew B S3 rb sb nb ob mf km sH ⟨some ⟨gR,0,none⟩,8,cR⟩ sP sO bv):=M3.out.below (Below.refl _ _).drew;have FD:Hid (Fm GL B w u3.drew):=F3.out.below (Below.refl _ _).drew hB3;have AD:Hid (FA u3.drew fb f):=A3.out.below (Below.refl _ _).drew;have hBd:B<=u3.drew.heap.size:=hB3;have TD:=MD.out.C;have q2:∀w':World,w'.heap[rb]?=some (.cells (EA S3 sH ⟨some ⟨gR,0,none⟩,8,cR⟩ sP sO sb km).toArray 85)->w'.cell? (Va rb 2)=some (Vs gR 8 cR):=fun w' h=>AV h 2
    clear M3 F3 A3 hB3 rf rc rl;have i2:(2:Int)<=(f.length:Int):=by have:=H2.out;omega
    have i3:(f.length:Int)<=(fc:Int):=by omega
    obtain⟨oo,hif,hoo⟩:∃oo:Nat,(if fc=2 then(some ⟨fb,0,none⟩:Option Addr)else some ⟨fb,2,none⟩)=some ⟨fb,oo,none⟩/\(f.length<=2∨oo=2):=by
     by_cases q:fc=2
     ·exact⟨0,by rw[if_pos q],.inl (by omega)⟩
     ·exact⟨2,by rw[if_neg q],.inr rfl⟩
    have HOO:=hxy hoo;obtain⟨g,hg⟩:=Ae (f.drop 2);have hgl:f.length-2=g.length:=by rw[<-hg,List.length_drop]
    have GD:Hid (∀w',FA w' fb f->GC w' fb oo g):=(fun w' h=>by
     have q:=h.gc 2;rw[hg]at q;rcases HOO.out with e|e
     ·refine⟨q.1,fun i hi=>?_⟩
      rw[<-hgl]at hi;omega
     ·rw[e];exact q:∀w',FA w' fb f->GC w' fb oo g)
    have HLG:Hid (∀i,((Ck (fd g i)).size:Int)<=200000):=(fun i=>by
     have e:fd g i=fd f (2+i):=by rw[<-hg];simp[fd]
     rw[e];exact HL.out _:∀i,((Ck (fd g i)).size:Int)<=200000)
    rw[hg]at HU;clear hg hoo;refine BF (T:=fun w'=>w'.heap[rb]?=some (.cells (EA S3 sH ⟨some ⟨gR,0,none⟩,8,cR⟩ sP sO sb km).toArray 85)) (s:=15) (by kernel_rfl) TD (fun hHeld=>?_);clear TD;generalize u3.drew=t0 at hHeld MD FD AD hBd⊢;refine AJ 0 rfl ?_;refine AJ 1 rfl ?_;refine AJ 2 rfl ?_;refine AJ 3 rfl ?_;refine AJ 4 rfl ?_;refine AJ 5 rfl ?_;refine AJ 6 rfl ?_;refine AJ 7 rfl ?_;refine Og 8 (.slice (some ⟨fb,oo,none⟩) g.length (fc-2)) rfl ?kay ?kar
    case kay=>(intro w hSw;(try dsimp only at hSw);go_simp;first|done|rw[hif]|rfl)
    try simp only[Act.put,BP,BN,BK,BQ,BS,BM]
    clear hif;refine Aq (i:=9) rfl (by kernel_rfl) (fun KK hK=>?_);go_simp;refine(Ra g fb oo (fc-2) t0 MD.out.E hBd (GD.out t0 AD.out) HLG.out).mono ?_;rintro e t1⟨⟨⟨xk,xs,xm,xh,xl,xi⟩,rfl,hv⟩,hb⟩;have HV:=hxy hv;obtain⟨ok,hok⟩:=Ae (Option.isSome (FK g));rw[hok];have HOK:=hxy hok;have M4:=hxy (MD.out.below hb);have F4:=hxy (FD.out.below hb hBd);have hB4:B<=t1.heap.size:=by have:=hb.size;omega
    clear hb hv hok MD FD AD GD hBd;dsimp only[VV.v];refine hK.out _ _ M4.out.C (fun hHeld1=>?_)
    clear hK KK
    try simp only[Act.put,BP,BN,BK,BQ,BS,BM]
    refine AJ 10 rfl ?_
    refine AJ 11 rfl ?_
    refine AJ 12 rfl ?_
    refine AJ 13 rfl ?_
    obtain⟨gx,ra,_,rf,rc,rl⟩:=M4.out.regs
    simp only[Option.some.injEq,Addr.mk.injEq,and_true]at ra
    subst ra
    obtain⟨m5,f5⟩:=PR.setR (n:=k) (v:=⟨xk,xs,xm,xh,xl,xi⟩) M4.out hk hB4
    have M5:=hxy m5
    have F5:=hxy (F4.out.trans f5)
    clear m5 f5 M4 F4
    obtain⟨o0,ho0⟩:∃v,t1.cell? (Va gR (k*6))=some v:=rc (k*6) (by omega)
    obtain⟨o1,ho1⟩:∃v,t1.cell? (Va gR (k*6+1))=some v:=rc (k*6+1) (by omega)
    obtain⟨o2,ho2⟩:∃v,t1.cell? (Va gR (k*6+2))=some v:=rc (k*6+2) (by omega)
    obtain⟨o3,ho3⟩:∃v,t1.cell? (Va gR (k*6+3))=some v:=rc (k*6+3) (by omega)
    obtain⟨o4,ho4⟩:∃v,t1.cell? (Va gR (k*6+4))=some v:=rc (k*6+4) (by omega)
    obtain⟨o5,ho5⟩:∃v,t1.cell? (Va gR (k*6+5))=some v:=rc (k*6+5) (by omega)
    clear rc
    refine Aq (i:=14) rfl (by kernel_rfl) (fun KK hK=>?_)
    go_simp
    refine hK.out _ _ M5.out.C (fun hHeld2=>?_)
    clear hK KK ho0 ho1 ho2 ho3 ho4 ho5 rf rl
    try simp only[Act.put,BP,BN,BK,BQ,BS,BM]
    change wpAnyL _ _ _ _ _ _ _ _ _ (setW t1 gR (k*6) (Qe ⟨xk,xs,xm,xh,xl,xi⟩))
    generalize setW t1 gR (k*6) (Qe ⟨xk,xs,xm,xh,xl,xi⟩)=t2 at M5 F5⊢
    refine A7 rfl (by kernel_rfl) (by kernel_rfl) (fun KK hK=>?_)
    go_simp
    refine hK.out _ _ ?_
    clear hK KK
    have HFIN:Hid (PA B w rb sb nb ob mf km RR (.returned (.bool ok)) t2):=(by
     rw[HU.out]
     refine⟨F5.out,by rw[<-HOK.out,Option.isSome_map],fun S' hS'=>?_⟩
     cases hvg:FK g with
     |none=>rw[hvg]at hS';cases hS'
     |some x=>
      rw[hvg]at hS'
      cases hS'
      have q:=HV.out x hvg
      subst q
      have m:=M5.out
      rw[<-HS3.out]at m
      exact⟨_,_,_,_,_,m⟩:PA B w rb sb nb ob mf km RR (.returned (.bool ok)) t2)
    go_wp2_with fail
    go_ret
    exact HFIN.out
end Go.Proofs.YtfpeecaaleijcaaGreatDoor
