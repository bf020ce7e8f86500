import Derived.Test.YtpbceodheeepoaaGreatLawParts
import Derived.Deep.RegionHeld3
import Derived.Deep.Cut
set_option maxHeartbeats 8000000
set_option maxRecDepth 20000
namespace Go.Proofs.YtpbceodheeepoaaGreat
open Go.RowKit
theorem Ans.set{w:World}{base b0 B:Nat}{v:Value}{o:Option MV}{xs:List Value}(h:Ans w base v o)(hr:w.ownsRow b0 28 9 (.slice (some ⟨B,0,none⟩) 1 1) 1 xs)(j:Nat)(u:Value):Ans (w.setCell ⟨B,j,none⟩ u) base v o:=by
 have ho:∀p M,Mem w base p M->Mem (w.setCell ⟨B,j,none⟩ u) base p M:=fun p M m=>Mem.setOff m (off_row m hr) j u
 generalize w.setCell ⟨B,j,none⟩ u=w' at ho;cases o with
 |none=>exact h
 |some M=>
  obtain⟨p,h1,m⟩:=h;exact⟨p,h1,ho p M m⟩
theorem var_put{W cur:World}{B:Nat}{o:Option MV}(x:MVl)(hV:cur.ownsRow W.heap.size 28 9 (.slice (some ⟨B,0,none⟩) 1 1) 1 [.slice none 0 0,.bool false,.bool false,.bool false,.bool false,.slice none 0 0,.int .i64 0,.int .i64 0,.slice none 0 0])(hN:Ans cur W.heap.size x.val o)(hb:Below W.heap.size W cur):
 (((((((((cur.setCell ⟨B,0,none⟩ (.slice x.aR x.nR x.cR)).setCell ⟨B,1,none⟩ (.bool x.z)).setCell ⟨B,2,none⟩ (.bool x.c)).setCell ⟨B,3,none⟩ (.bool x.hz)).setCell ⟨B,4,none⟩ (.bool x.hc)).setCell ⟨B,5,none⟩ (.slice x.aH x.nH x.cH)).setCell ⟨B,6,none⟩ (.int .i64 x.pc)).setCell ⟨B,7,none⟩ (.int .i64 x.st)).setCell ⟨B,8,none⟩ (.slice x.aO x.nO x.cO)).ownsRow W.heap.size 28 9 (.slice (some ⟨B,0,none⟩) 1 1) 1 [.slice x.aR x.nR x.cR,.bool x.z,.bool x.c,.bool x.hz,.bool x.hc,.slice x.aH x.nH x.cH,.int .i64 x.pc,.int .i64 x.st,.slice x.aO x.nO x.cO]/\
 Ans (((((((((cur.setCell ⟨B,0,none⟩ (.slice x.aR x.nR x.cR)).setCell ⟨B,1,none⟩ (.bool x.z)).setCell ⟨B,2,none⟩ (.bool x.c)).setCell ⟨B,3,none⟩ (.bool x.hz)).setCell ⟨B,4,none⟩ (.bool x.hc)).setCell ⟨B,5,none⟩ (.slice x.aH x.nH x.cH)).setCell ⟨B,6,none⟩ (.int .i64 x.pc)).setCell ⟨B,7,none⟩ (.int .i64 x.st)).setCell ⟨B,8,none⟩ (.slice x.aO x.nO x.cO)) W.heap.size x.val o/\Below W.heap.size W (((((((((cur.setCell ⟨B,0,none⟩ (.slice x.aR x.nR x.cR)).setCell ⟨B,1,none⟩ (.bool x.z)).setCell ⟨B,2,none⟩ (.bool x.c)).setCell ⟨B,3,none⟩ (.bool x.hz)).setCell ⟨B,4,none⟩ (.bool x.hc)).setCell ⟨B,5,none⟩ (.slice x.aH x.nH x.cH)).setCell ⟨B,6,none⟩ (.int .i64 x.pc)).setCell ⟨B,7,none⟩ (.int .i64 x.st)).setCell ⟨B,8,none⟩ (.slice x.aO x.nO x.cO)):=by
 have kw:=(hV.lt B rfl).1;refine⟨((((((((((((((((((hV).stored 0 _).1).stored 1 _).1).stored 2 _).1).stored 3 _).1).stored 4 _).1).stored 5 _).1).stored 6 _).1).stored 7 _).1).stored 8 _).1,(((((((((hN).set (hV) 0 _).set (((hV).stored 0 _).1) 1 _).set (((((hV).stored 0 _).1).stored 1 _).1) 2 _).set (((((((hV).stored 0 _).1).stored 1 _).1).stored 2 _).1) 3 _).set (((((((((hV).stored 0 _).1).stored 1 _).1).stored 2 _).1).stored 3 _).1) 4 _).set (((((((((((hV).stored 0 _).1).stored 1 _).1).stored 2 _).1).stored 3 _).1).stored 4 _).1) 5 _).set (((((((((((((hV).stored 0 _).1).stored 1 _).1).stored 2 _).1).stored 3 _).1).stored 4 _).1).stored 5 _).1) 6 _).set (((((((((((((((hV).stored 0 _).1).stored 1 _).1).stored 2 _).1).stored 3 _).1).stored 4 _).1).stored 5 _).1).stored 6 _).1) 7 _).set (((((((((((((((((hV).stored 0 _).1).stored 1 _).1).stored 2 _).1).stored 3 _).1).stored 4 _).1).stored 5 _).1).stored 6 _).1).stored 7 _).1) 8 _,?_⟩;iterate 9 refine Below.setCell ?_ kw _
 exact hb
theorem lawStep_walk(ao:Option Addr)(len cap:Nat)(F:Nat->Nat->Int)(aoR:Option Addr)(nR capR:Nat)(R:Nat->Int)(z c hz hc:Bool)(aoH:Option Addr)(nH capH:Nat)(Hp:Nat->HeapV)(pc st:Int)(aoO:Option Addr)(nO capO:Nat)(K V:Nat->Int)(w:World)
 (hlen:len<=1048576)(hinP:InRow w ao (len*6) (insF F))(mR:nR<=9223372036854775807)(mH:nH<=9223372036854775807)(mD:∀i,i<nH->(Hp i).len<=9223372036854775807)(mO:nO<=9223372036854775807)(hr:InRange R nH Hp)(hin:MachIn w aoR nR R aoH nH Hp aoO nO K V):
 Calls Tryz.prog 4 #[.slice ao len cap,.agg #[.slice aoR nR capR,.bool z,.bool c,.bool hz,.bool hc,.slice aoH nH capH,.int .i64 pc,.int .i64 st,.slice aoO nO capO]] w fun e w'=>e=.returned (.bool true)/\Below w.heap.size w w':=by
 have HI:Hid (MachIn w aoR nR R aoH nH Hp aoO nO K V):=hin
 have HIP:Hid (InRow w ao (len*6) (insF F)):=hinP
 have HD:Hid (∀i,i<nH->(Hp i).len<=9223372036854775807):=mD
 have HR:Hid (InRange R nH Hp):=hr
 clear hin mD hr hinP
 have hlen':(len:Int)<=1048576:=by omega
 go_enter Tryz.func4,Tryz.ntmps4
 go_wp2_with fail
 generalize hw0:w.alloc (.cells #[.slice aoR nR capR,.bool z,.bool c,.bool hz,.bool hc,.slice aoH nH capH,.int .i64 pc,.int .i64 st,.slice aoO nO capO] 42)=w0
 have b0:Below w.heap.size w w0:=by rw[<-hw0];exact(Below.refl _ _).alloc (Nat.le_refl _) _
 have XA:w0.ownsRow w.heap.size 42 9 (.slice (some ⟨w.heap.size,0,none⟩) 1 1) 1 [.slice aoR nR capR,.bool z,.bool c,.bool hz,.bool hc,.slice aoH nH capH,.int .i64 pc,.int .i64 st,.slice aoO nO capO]:=by rw[<-hw0];exact World.ownsRow_lit w #[.slice aoR nR capR,.bool z,.bool c,.bool hz,.bool hc,.slice aoH nH capH,.int .i64 pc,.int .i64 st,.slice aoO nO capO] 1 (Nat.le_refl _) (by unfold maxLen;omega) rfl
 have HXA:Hid (w0.ownsRow w.heap.size 42 9 (.slice (some ⟨w.heap.size,0,none⟩) 1 1) 1 [.slice aoR nR capR,.bool z,.bool c,.bool hz,.bool hc,.slice aoH nH capH,.int .i64 pc,.int .i64 st,.slice aoO nO capO]):=XA
 have z0:w.heap.size<w0.heap.size:=by rw[<-hw0];simp
 have HB0:Hid (Below w.heap.size w w0):=b0
 clear hw0 b0
 refine(szInsS_ok _ _ _ _ _ (by omega) (by omega)).mono ?_
 rintro e w'⟨rfl,hw'⟩
 rw[hw']
 clear hw' w'
 have hnn:¬((1048576:Int)-len)<0:=by omega
 obtain⟨a0,a1,a2,a3,a4,a5,a6,a7,a8⟩:=cells9 XA
 clear XA
 go_wp2_with fail
 refine(szMach_any _ _ _ _ _ _ _ _ _ _ Hp _ _ _ _ _ _ _ (by omega) (by omega) mR mH HD.out mO (HI.out.heaps.below HB0.out (Nat.le_refl _))).mono ?_
 rintro e w1⟨r,rfl,hl,hb1⟩
 have HB1:Hid (Below w.heap.size w w1):=HB0.out.trans (hb1.mono HB0.out.size)
 have HXA1:Hid (w1.ownsRow w.heap.size 42 9 (.slice (some ⟨w.heap.size,0,none⟩) 1 1) 1 [.slice aoR nR capR,.bool z,.bool c,.bool hz,.bool hc,.slice aoH nH capH,.int .i64 pc,.int .i64 st,.slice aoO nO capO]):=row_below HXA.out hb1
 have z1:w.heap.size<w1.heap.size:=Nat.lt_of_lt_of_le z0 hb1.size
 clear hb1 HB0 HXA a0 a1 a2 a3 a4 a5 a6 a7 a8
 rcases hl with rfl|⟨hr0,hr1,hs⟩
 ·go_wp2
  go_ret
  exact⟨rfl,HB1.out⟩
 have HS:Hid (Small nR nH Hp nO):=hs
 clear hs
 obtain⟨o,ho⟩:∃o,stepA len F nR {R:=R,z:=z,c:=c,hz:=hz,hc:=hc,nH:=nH,Hp:=Hp,pc:=pc,st:=st,nO:=nO,K:=K,V:=V}=o:=⟨_,rfl⟩
 have HSA:Hid (SmallA o):=by show SmallA o;rw[<-ho];exact stepA_small _ _ _ _
 have HSPEC:Hid (∀(wq:World)(bP bR bH:Nat)(blk:Nat->Nat)(bO:Nat),Arr wq bP (len*6) (insF F)->MachCp wq bR nR R bH nH Hp blk bO nO K V->Calls Tryz.prog 16 #[.slice (some ⟨bP,0,none⟩) len len,.agg #[.slice (some ⟨bR,0,none⟩) nR nR,.bool z,.bool c,.bool hz,.bool hc,.slice (some ⟨bH,0,none⟩) nH nH,.int .i64 pc,.int .i64 st,.slice (some ⟨bO,0,none⟩) nO nO]] wq fun e w'=>∃x:MVl,e=.returned x.val/\Below wq.heap.size wq w'/\Ans w' wq.heap.size x.val o):=fun wq bP bR bH blk bO hP hM=>(specStep_any bP len F bR nR R z c hz hc bH nH Hp blk pc st bO nO K V wq hlen hP HS.out HR.out hM).mono fun e w'⟨v,h1,h2,h3⟩=>by
  rw[ho]at h3
  obtain⟨x,rfl⟩:=h3.form
  exact⟨x,h1,h2,h3⟩
 have HIMPL:Hid (∀(wq:World)(bP bR bH:Nat)(blk:Nat->Nat)(bO:Nat),Arr wq bP (len*6) (insF F)->MachCp wq bR nR R bH nH Hp blk bO nO K V->Calls Tryz.prog 13 #[.slice (some ⟨bP,0,none⟩) len len,.agg #[.slice (some ⟨bR,0,none⟩) nR nR,.bool z,.bool c,.bool hz,.bool hc,.slice (some ⟨bH,0,none⟩) nH nH,.int .i64 pc,.int .i64 st,.slice (some ⟨bO,0,none⟩) nO nO]] wq fun e w'=>∃x:MVl,e=.returned x.val/\Below wq.heap.size wq w'/\Ans w' wq.heap.size x.val o):=fun wq bP bR bH blk bO hP hM=>(implStep_any bP len F bR nR R z c hz hc bH nH Hp blk pc st bO nO K V wq hlen hP HS.out HR.out hM).mono fun e w'⟨v,h1,h2,h3⟩=>by
  rw[ho]at h3
  obtain⟨x,rfl⟩:=h3.form
  exact⟨x,h1,h2,h3⟩
 have HTOI:Hid (∀wq:World,Below w.heap.size w wq->Calls Tryz.prog 17 #[.slice ao len cap] wq fun e w'=>e=.returned (.slice (some ⟨wq.heap.size,0,none⟩) len len)/\Below wq.heap.size wq w'/\Arr w' wq.heap.size (len*6) (insF F)):=fun wq hb=>toInsS_in _ _ _ F wq hlen (HIP.out.below hb (Nat.le_refl _))
 have HTOM:Hid (∀wq:World,Below w.heap.size w wq->Calls Tryz.prog 18 #[.agg #[.slice aoR nR capR,.bool z,.bool c,.bool hz,.bool hc,.slice aoH nH capH,.int .i64 pc,.int .i64 st,.slice aoO nO capO]] wq fun e w'=>∃bR bH blk bO,wq.heap.size<=bR/\e=.returned (.agg #[.slice (some ⟨bR,0,none⟩) nR nR,.bool z,.bool c,.bool hz,.bool hc,.slice (some ⟨bH,0,none⟩) nH nH,.int .i64 pc,.int .i64 st,.slice (some ⟨bO,0,none⟩) nO nO])/\Below wq.heap.size wq w'/\MachCp w' bR nR R bH nH Hp blk bO nO K V):=fun wq hb=>toMach_any aoR nR capR R z c hz hc aoH nH capH Hp pc st aoO nO capO K V wq HS.out (HI.out.below hb (Nat.le_refl _))
 clear ho
 go_upto_region 8 with fail
 obtain⟨a0,a1,a2,a3,a4,a5,a6,a7,a8⟩:=cells9 HXA1.out
 have A0:∀w',Below w1.heap.size w1 w'->w'.cell? ⟨w.heap.size,0,none⟩=some (.slice aoR nR capR):=fun w' h=>(h.cell (p:=⟨w.heap.size,0,none⟩) z1).trans a0
 have A1:∀w',Below w1.heap.size w1 w'->w'.cell? ⟨w.heap.size,1,none⟩=some (.bool z):=fun w' h=>(h.cell (p:=⟨w.heap.size,1,none⟩) z1).trans a1
 have A2:∀w',Below w1.heap.size w1 w'->w'.cell? ⟨w.heap.size,2,none⟩=some (.bool c):=fun w' h=>(h.cell (p:=⟨w.heap.size,2,none⟩) z1).trans a2
 have A3:∀w',Below w1.heap.size w1 w'->w'.cell? ⟨w.heap.size,3,none⟩=some (.bool hz):=fun w' h=>(h.cell (p:=⟨w.heap.size,3,none⟩) z1).trans a3
 have A4:∀w',Below w1.heap.size w1 w'->w'.cell? ⟨w.heap.size,4,none⟩=some (.bool hc):=fun w' h=>(h.cell (p:=⟨w.heap.size,4,none⟩) z1).trans a4
 have A5:∀w',Below w1.heap.size w1 w'->w'.cell? ⟨w.heap.size,5,none⟩=some (.slice aoH nH capH):=fun w' h=>(h.cell (p:=⟨w.heap.size,5,none⟩) z1).trans a5
 have A6:∀w',Below w1.heap.size w1 w'->w'.cell? ⟨w.heap.size,6,none⟩=some (.int .i64 pc):=fun w' h=>(h.cell (p:=⟨w.heap.size,6,none⟩) z1).trans a6
 have A7:∀w',Below w1.heap.size w1 w'->w'.cell? ⟨w.heap.size,7,none⟩=some (.int .i64 st):=fun w' h=>(h.cell (p:=⟨w.heap.size,7,none⟩) z1).trans a7
 have A8:∀w',Below w1.heap.size w1 w'->w'.cell? ⟨w.heap.size,8,none⟩=some (.slice aoO nO capO):=fun w' h=>(h.cell (p:=⟨w.heap.size,8,none⟩) z1).trans a8
 clear a0 a1 a2 a3 a4 a5 a6 a7 a8
 go_cut [6](fun s wx=>∃(B:Nat)(x:MVl),s=.pointer (some ⟨B,0,none⟩)/\wx.ownsRow w1.heap.size 28 9 (.slice (some ⟨B,0,none⟩) 1 1) 1 [.slice x.aR x.nR x.cR,.bool x.z,.bool x.c,.bool x.hz,.bool x.hc,.slice x.aH x.nH x.cH,.int .i64 x.pc,.int .i64 x.st,.slice x.aO x.nO x.cO]/\Ans wx w1.heap.size x.val o/\Below w1.heap.size w1 wx)
 case first=>
  have HBda:Hid (Below w1.heap.size w1 w1.drew):=(Below.refl _ _).drew
  refine wp_region_held_drew (S:=fun w'=>Below w1.heap.size w1 w') (by kernel_rfl) HBda.out (fun hHeld=>?_)
  refine wpAnyH_tk 0 ?av0 rfl ?ay0 ?ar0
  case ay0=>(intro w hSw;(try dsimp only at hSw);go_simp;try with_reducible rfl)
  try go_frame
  refine wpAnyH_tk 2 ?av2 rfl ?ay2 ?ar2
  case ay2=>(intro w hSw;(try dsimp only at hSw);go_simp;try with_reducible rfl)
  try go_frame
  refine wpAnyH_ready (rs:=[1,5]) (by kernel_rfl) (by simp) ?_
  refine AllReadyH.cons rfl (fun KK hK=>?_) (AllReadyH.cons rfl (fun KK hK=>?_) AllReadyH.nil)
  ·go_simp
   refine(HTOI.out _ (HB1.out.trans (HBda.out.mono HB1.out.size))).mono ?_
   rintro e ua1⟨rfl,hqua1,haua1⟩
   have hbua1:Below w1.heap.size w1 ua1:=HBda.out.trans (hqua1.mono HBda.out.size)
   have HPua1:Hid (Arr ua1 w1.drew.heap.size (len*6) (insF F)):=haua1
   clear hqua1 haua1
   go_wp2_with fail
   have HBua1:Hid (Below w1.heap.size w1 ua1):=hbua1
   refine hK.out _ _ hbua1 (fun hHeldua1=>?_)
   clear hK KK hbua1
   try go_frame
   refine wpAnyH_ready (rs:=[3,5]) (by kernel_rfl) (by simp) ?_
   refine AllReadyH.cons rfl (fun KK hK=>?_) (AllReadyH.cons rfl (fun KK hK=>?_) AllReadyH.nil)
   ·go_simp
    refine(HTOM.out _ (HB1.out.trans (HBua1.out.mono HB1.out.size))).mono ?_
    rintro e ua2⟨bR,bH,blk,bO,hbR,rfl,hqua2,haua2⟩
    have hbua2:Below w1.heap.size w1 ua2:=HBua1.out.trans (hqua2.mono HBua1.out.size)
    have HMua2:Hid (MachCp ua2 bR nR R bH nH Hp blk bO nO K V):=haua2
    have HPua2:Hid (Arr ua2 (w1.drew.heap.size) (len*6) (insF F)):=HPua1.out.below hqua2 HPua1.out.lt
    clear hqua2 haua2
    go_wp2_with fail
    have HBua2:Hid (Below w1.heap.size w1 ua2):=hbua2
    refine hK.out _ _ hbua2 (fun hHeldua2=>?_)
    clear hK KK hbua2
    try go_frame
    refine wpAnyH_ready (rs:=[4,5]) (by kernel_rfl) (by simp) ?_
    refine AllReadyH.cons rfl (fun KK hK=>?_) (AllReadyH.cons rfl (fun KK hK=>?_) AllReadyH.nil)
    ·go_simp
     refine(HSPEC.out _ _ _ _ _ _ HPua2.out HMua2.out).mono ?_
     rintro e ua3⟨x,rfl,hqua3,haua3⟩
     have hbua3:Below w1.heap.size w1 ua3:=HBua2.out.trans (hqua3.mono HBua2.out.size)
     have HNua3:Hid (Ans ua3 w1.heap.size x.val o):=Ans.mono haua3 HBua2.out.size
     clear hqua3 haua3
     go_wp2_with fail
     simp only[MVl.val]
     have HBua3:Hid (Below w1.heap.size w1 ua3):=hbua3
     refine hK.out _ _ hbua3 (fun hHeldua3=>?_)
     clear hK KK hbua3
     try go_frame
     refine wpAnyH_ready (rs:=[5]) (by kernel_rfl) (by simp) ?_
     refine AllReadyH.cons rfl (fun KK hK=>?_) AllReadyH.nil
     go_simp
     have hqua4:Below ua3.heap.size ua3 (ua3.alloc (.cells #[.slice none 0 0,.bool false,.bool false,.bool false,.bool false,.slice none 0 0,.int .i64 0,.int .i64 0,.slice none 0 0] 28)):=(Below.refl _ _).alloc (Nat.le_refl _) _
     have hvua4:(ua3.alloc (.cells #[.slice none 0 0,.bool false,.bool false,.bool false,.bool false,.slice none 0 0,.int .i64 0,.int .i64 0,.slice none 0 0] 28)).ownsRow w1.heap.size 28 9 (.slice (some ⟨ua3.heap.size,0,none⟩) 1 1) 1 [.slice none 0 0,.bool false,.bool false,.bool false,.bool false,.slice none 0 0,.int .i64 0,.int .i64 0,.slice none 0 0]:=World.ownsRow_lit ua3 #[.slice none 0 0,.bool false,.bool false,.bool false,.bool false,.slice none 0 0,.int .i64 0,.int .i64 0,.slice none 0 0] 1 HBua3.out.size (by unfold maxLen;omega) rfl
     generalize ua3.alloc (.cells #[.slice none 0 0,.bool false,.bool false,.bool false,.bool false,.slice none 0 0,.int .i64 0,.int .i64 0,.slice none 0 0] 28)=ua4 at hqua4 hvua4⊢
     have hbua4:Below w1.heap.size w1 ua4:=HBua3.out.trans (hqua4.mono HBua3.out.size)
     have HVua4:Hid (ua4.ownsRow w1.heap.size 28 9 (.slice (some ⟨ua3.heap.size,0,none⟩) 1 1) 1 [.slice none 0 0,.bool false,.bool false,.bool false,.bool false,.slice none 0 0,.int .i64 0,.int .i64 0,.slice none 0 0]):=hvua4
     have HNua4:Hid (Ans ua4 w1.heap.size x.val o):=HNua3.out.below hqua4
     clear hqua4 hvua4
     have HBua4:Hid (Below w1.heap.size w1 ua4):=hbua4
     refine hK.out _ _ hbua4 (fun hHeldua4=>?_)
     clear hK KK hbua4
     try go_frame
     obtain⟨k0,k1,k2,k3,k4,k5,k6,k7,k8⟩:=cells9 HVua4.out
     have kf:∀i,ua4.frozen? ⟨ua3.heap.size,i,none⟩=false:=fun i=>HVua4.out.frozenAt i
     have kl:ua3.heap.size<ua4.heap.size:=(HVua4.out.lt _ rfl).2
     have kw:w1.heap.size<=ua3.heap.size:=(HVua4.out.lt _ rfl).1
     refine wpAnyH_ready (rs:=[6]) (by kernel_rfl) (by simp) ?_
     refine AllReadyH.cons rfl (fun KK hK=>?_) AllReadyH.nil
     go_simp
     have hE:=var_put x HVua4.out HNua4.out HBua4.out
     refine hK.out _ _ hE.2.2 (fun hHeldV=>?_)
     clear hK KK
     refine wpAnyH_done (by kernel_rfl) ?_ _
     go_wp2_with fail
     go_meet
     exact⟨ua3.heap.size,x,rfl,hE.1,hE.2.1,hE.2.2⟩
    ·go_simp
     have hqua5:Below ua2.heap.size ua2 (ua2.alloc (.cells #[.slice none 0 0,.bool false,.bool false,.bool false,.bool false,.slice none 0 0,.int .i64 0,.int .i64 0,.slice none 0 0] 28)):=(Below.refl _ _).alloc (Nat.le_refl _) _
     have hvua5:(ua2.alloc (.cells #[.slice none 0 0,.bool false,.bool false,.bool false,.bool false,.slice none 0 0,.int .i64 0,.int .i64 0,.slice none 0 0] 28)).ownsRow w1.heap.size 28 9 (.slice (some ⟨ua2.heap.size,0,none⟩) 1 1) 1 [.slice none 0 0,.bool false,.bool false,.bool false,.bool false,.slice none 0 0,.int .i64 0,.int .i64 0,.slice none 0 0]:=World.ownsRow_lit ua2 #[.slice none 0 0,.bool false,.bool false,.bool false,.bool false,.slice none 0 0,.int .i64 0,.int .i64 0,.slice none 0 0] 1 HBua2.out.size (by unfold maxLen;omega) rfl
     generalize ua2.alloc (.cells #[.slice none 0 0,.bool false,.bool false,.bool false,.bool false,.slice none 0 0,.int .i64 0,.int .i64 0,.slice none 0 0] 28)=ua5 at hqua5 hvua5⊢
     have hbua5:Below w1.heap.size w1 ua5:=HBua2.out.trans (hqua5.mono HBua2.out.size)
     have HVua5:Hid (ua5.ownsRow w1.heap.size 28 9 (.slice (some ⟨ua2.heap.size,0,none⟩) 1 1) 1 [.slice none 0 0,.bool false,.bool false,.bool false,.bool false,.slice none 0 0,.int .i64 0,.int .i64 0,.slice none 0 0]):=hvua5
     have HPua5:Hid (Arr ua5 (w1.drew.heap.size) (len*6) (insF F)):=HPua2.out.below hqua5 HPua2.out.lt
     have HMua5:Hid (MachCp ua5 bR nR R bH nH Hp blk bO nO K V):=HMua2.out.below hqua5 (Nat.le_refl _)
     clear hqua5 hvua5
     have HBua5:Hid (Below w1.heap.size w1 ua5):=hbua5
     refine hK.out _ _ hbua5 (fun hHeldua5=>?_)
     clear hK KK hbua5
     try go_frame
     refine wpAnyH_ready (rs:=[4]) (by kernel_rfl) (by simp) ?_
     refine AllReadyH.cons rfl (fun KK hK=>?_) AllReadyH.nil
     go_simp
     refine(HSPEC.out _ _ _ _ _ _ HPua5.out HMua5.out).mono ?_
     rintro e ua6⟨x,rfl,hqua6,haua6⟩
     have hbua6:Below w1.heap.size w1 ua6:=HBua5.out.trans (hqua6.mono HBua5.out.size)
     have HNua6:Hid (Ans ua6 w1.heap.size x.val o):=Ans.mono haua6 HBua5.out.size
     have HVua6:Hid (ua6.ownsRow w1.heap.size 28 9 (.slice (some ⟨ua2.heap.size,0,none⟩) 1 1) 1 [.slice none 0 0,.bool false,.bool false,.bool false,.bool false,.slice none 0 0,.int .i64 0,.int .i64 0,.slice none 0 0]):=row_below HVua5.out hqua6
     clear hqua6 haua6
     go_wp2_with fail
     simp only[MVl.val]
     have HBua6:Hid (Below w1.heap.size w1 ua6):=hbua6
     refine hK.out _ _ hbua6 (fun hHeldua6=>?_)
     clear hK KK hbua6
     try go_frame
     obtain⟨k0,k1,k2,k3,k4,k5,k6,k7,k8⟩:=cells9 HVua6.out
     have kf:∀i,ua6.frozen? ⟨ua2.heap.size,i,none⟩=false:=fun i=>HVua6.out.frozenAt i
     have kl:ua2.heap.size<ua6.heap.size:=(HVua6.out.lt _ rfl).2
     have kw:w1.heap.size<=ua2.heap.size:=(HVua6.out.lt _ rfl).1
     refine wpAnyH_ready (rs:=[6]) (by kernel_rfl) (by simp) ?_
     refine AllReadyH.cons rfl (fun KK hK=>?_) AllReadyH.nil
     go_simp
     have hE:=var_put x HVua6.out HNua6.out HBua6.out
     refine hK.out _ _ hE.2.2 (fun hHeldV=>?_)
     clear hK KK
     refine wpAnyH_done (by kernel_rfl) ?_ _
     go_wp2_with fail
     go_meet
     exact⟨ua2.heap.size,x,rfl,hE.1,hE.2.1,hE.2.2⟩
   ·go_simp
    have hqua7:Below ua1.heap.size ua1 (ua1.alloc (.cells #[.slice none 0 0,.bool false,.bool false,.bool false,.bool false,.slice none 0 0,.int .i64 0,.int .i64 0,.slice none 0 0] 28)):=(Below.refl _ _).alloc (Nat.le_refl _) _
    have hvua7:(ua1.alloc (.cells #[.slice none 0 0,.bool false,.bool false,.bool false,.bool false,.slice none 0 0,.int .i64 0,.int .i64 0,.slice none 0 0] 28)).ownsRow w1.heap.size 28 9 (.slice (some ⟨ua1.heap.size,0,none⟩) 1 1) 1 [.slice none 0 0,.bool false,.bool false,.bool false,.bool false,.slice none 0 0,.int .i64 0,.int .i64 0,.slice none 0 0]:=World.ownsRow_lit ua1 #[.slice none 0 0,.bool false,.bool false,.bool false,.bool false,.slice none 0 0,.int .i64 0,.int .i64 0,.slice none 0 0] 1 HBua1.out.size (by unfold maxLen;omega) rfl
    generalize ua1.alloc (.cells #[.slice none 0 0,.bool false,.bool false,.bool false,.bool false,.slice none 0 0,.int .i64 0,.int .i64 0,.slice none 0 0] 28)=ua7 at hqua7 hvua7⊢
    have hbua7:Below w1.heap.size w1 ua7:=HBua1.out.trans (hqua7.mono HBua1.out.size)
    have HVua7:Hid (ua7.ownsRow w1.heap.size 28 9 (.slice (some ⟨ua1.heap.size,0,none⟩) 1 1) 1 [.slice none 0 0,.bool false,.bool false,.bool false,.bool false,.slice none 0 0,.int .i64 0,.int .i64 0,.slice none 0 0]):=hvua7
    have HPua7:Hid (Arr ua7 (w1.drew.heap.size) (len*6) (insF F)):=HPua1.out.below hqua7 HPua1.out.lt
    clear hqua7 hvua7
    have HBua7:Hid (Below w1.heap.size w1 ua7):=hbua7
    refine hK.out _ _ hbua7 (fun hHeldua7=>?_)
    clear hK KK hbua7
    try go_frame
    refine wpAnyH_ready (rs:=[3]) (by kernel_rfl) (by simp) ?_
    refine AllReadyH.cons rfl (fun KK hK=>?_) AllReadyH.nil
    go_simp
    refine(HTOM.out _ (HB1.out.trans (HBua7.out.mono HB1.out.size))).mono ?_
    rintro e ua8⟨bR,bH,blk,bO,hbR,rfl,hqua8,haua8⟩
    have hbua8:Below w1.heap.size w1 ua8:=HBua7.out.trans (hqua8.mono HBua7.out.size)
    have HMua8:Hid (MachCp ua8 bR nR R bH nH Hp blk bO nO K V):=haua8
    have HPua8:Hid (Arr ua8 (w1.drew.heap.size) (len*6) (insF F)):=HPua7.out.below hqua8 HPua7.out.lt
    have HVua8:Hid (ua8.ownsRow w1.heap.size 28 9 (.slice (some ⟨ua1.heap.size,0,none⟩) 1 1) 1 [.slice none 0 0,.bool false,.bool false,.bool false,.bool false,.slice none 0 0,.int .i64 0,.int .i64 0,.slice none 0 0]):=row_below HVua7.out hqua8
    clear hqua8 haua8
    go_wp2_with fail
    have HBua8:Hid (Below w1.heap.size w1 ua8):=hbua8
    refine hK.out _ _ hbua8 (fun hHeldua8=>?_)
    clear hK KK hbua8
    try go_frame
    refine wpAnyH_ready (rs:=[4]) (by kernel_rfl) (by simp) ?_
    refine AllReadyH.cons rfl (fun KK hK=>?_) AllReadyH.nil
    go_simp
    refine(HSPEC.out _ _ _ _ _ _ HPua8.out HMua8.out).mono ?_
    rintro e ua9⟨x,rfl,hqua9,haua9⟩
    have hbua9:Below w1.heap.size w1 ua9:=HBua8.out.trans (hqua9.mono HBua8.out.size)
    have HNua9:Hid (Ans ua9 w1.heap.size x.val o):=Ans.mono haua9 HBua8.out.size
    have HVua9:Hid (ua9.ownsRow w1.heap.size 28 9 (.slice (some ⟨ua1.heap.size,0,none⟩) 1 1) 1 [.slice none 0 0,.bool false,.bool false,.bool false,.bool false,.slice none 0 0,.int .i64 0,.int .i64 0,.slice none 0 0]):=row_below HVua8.out hqua9;clear hqua9 haua9
    go_wp2_with fail
    simp only[MVl.val]
    have HBua9:Hid (Below w1.heap.size w1 ua9):=hbua9
    refine hK.out _ _ hbua9 (fun hHeldua9=>?_)
    clear hK KK hbua9
    try go_frame
    obtain⟨k0,k1,k2,k3,k4,k5,k6,k7,k8⟩:=cells9 HVua9.out
    have kf:∀i,ua9.frozen? ⟨ua1.heap.size,i,none⟩=false:=fun i=>HVua9.out.frozenAt i
    have kl:ua1.heap.size<ua9.heap.size:=(HVua9.out.lt _ rfl).2
    have kw:w1.heap.size<=ua1.heap.size:=(HVua9.out.lt _ rfl).1
    refine wpAnyH_ready (rs:=[6]) (by kernel_rfl) (by simp) ?_
    refine AllReadyH.cons rfl (fun KK hK=>?_) AllReadyH.nil
    go_simp
    have hE:=var_put x HVua9.out HNua9.out HBua9.out
    refine hK.out _ _ hE.2.2 (fun hHeldV=>?_)
    clear hK KK
    refine wpAnyH_done (by kernel_rfl) ?_ _
    go_wp2_with fail
    go_meet
    exact⟨ua1.heap.size,x,rfl,hE.1,hE.2.1,hE.2.2⟩
  ·go_simp
   have hqua10:Below w1.heap.size w1 ((w1.alloc (.cells #[.slice none 0 0,.bool false,.bool false,.bool false,.bool false,.slice none 0 0,.int .i64 0,.int .i64 0,.slice none 0 0] 28)).drew):=((Below.refl _ _).alloc (Nat.le_refl _) _).drew
   have hvua10:((w1.alloc (.cells #[.slice none 0 0,.bool false,.bool false,.bool false,.bool false,.slice none 0 0,.int .i64 0,.int .i64 0,.slice none 0 0] 28)).drew).ownsRow w1.heap.size 28 9 (.slice (some ⟨w1.heap.size,0,none⟩) 1 1) 1 [.slice none 0 0,.bool false,.bool false,.bool false,.bool false,.slice none 0 0,.int .i64 0,.int .i64 0,.slice none 0 0]:=(World.ownsRow_lit w1 #[.slice none 0 0,.bool false,.bool false,.bool false,.bool false,.slice none 0 0,.int .i64 0,.int .i64 0,.slice none 0 0] 1 (Nat.le_refl _) (by unfold maxLen;omega) rfl).drew
   generalize(w1.alloc (.cells #[.slice none 0 0,.bool false,.bool false,.bool false,.bool false,.slice none 0 0,.int .i64 0,.int .i64 0,.slice none 0 0] 28)).drew=ua10 at hqua10 hvua10⊢
   have hbua10:Below w1.heap.size w1 ua10:=(Below.refl w1.heap.size w1).trans (hqua10.mono (Below.refl w1.heap.size w1).size)
   have HVua10:Hid (ua10.ownsRow w1.heap.size 28 9 (.slice (some ⟨w1.heap.size,0,none⟩) 1 1) 1 [.slice none 0 0,.bool false,.bool false,.bool false,.bool false,.slice none 0 0,.int .i64 0,.int .i64 0,.slice none 0 0]):=hvua10
   clear hqua10 hvua10
   have HBua10:Hid (Below w1.heap.size w1 ua10):=hbua10
   refine hK.out _ _ hbua10 (fun hHeldua10=>?_)
   clear hK KK hbua10
   try go_frame
   refine wpAnyH_ready (rs:=[1]) (by kernel_rfl) (by simp) ?_
   refine AllReadyH.cons rfl (fun KK hK=>?_) AllReadyH.nil
   go_simp
   refine(HTOI.out _ (HB1.out.trans (HBua10.out.mono HB1.out.size))).mono ?_
   rintro e ua11⟨rfl,hqua11,haua11⟩
   have hbua11:Below w1.heap.size w1 ua11:=HBua10.out.trans (hqua11.mono HBua10.out.size)
   have HPua11:Hid (Arr ua11 ua10.heap.size (len*6) (insF F)):=haua11
   have HVua11:Hid (ua11.ownsRow w1.heap.size 28 9 (.slice (some ⟨w1.heap.size,0,none⟩) 1 1) 1 [.slice none 0 0,.bool false,.bool false,.bool false,.bool false,.slice none 0 0,.int .i64 0,.int .i64 0,.slice none 0 0]):=row_below HVua10.out hqua11
   clear hqua11 haua11
   go_wp2_with fail
   have HBua11:Hid (Below w1.heap.size w1 ua11):=hbua11
   refine hK.out _ _ hbua11 (fun hHeldua11=>?_)
   clear hK KK hbua11
   try go_frame
   refine wpAnyH_ready (rs:=[3]) (by kernel_rfl) (by simp) ?_
   refine AllReadyH.cons rfl (fun KK hK=>?_) AllReadyH.nil
   go_simp
   refine(HTOM.out _ (HB1.out.trans (HBua11.out.mono HB1.out.size))).mono ?_
   rintro e ua12⟨bR,bH,blk,bO,hbR,rfl,hqua12,haua12⟩
   have hbua12:Below w1.heap.size w1 ua12:=HBua11.out.trans (hqua12.mono HBua11.out.size)
   have HMua12:Hid (MachCp ua12 bR nR R bH nH Hp blk bO nO K V):=haua12
   have HPua12:Hid (Arr ua12 (ua10.heap.size) (len*6) (insF F)):=HPua11.out.below hqua12 HPua11.out.lt;have HVua12:Hid (ua12.ownsRow w1.heap.size 28 9 (.slice (some ⟨w1.heap.size,0,none⟩) 1 1) 1 [.slice none 0 0,.bool false,.bool false,.bool false,.bool false,.slice none 0 0,.int .i64 0,.int .i64 0,.slice none 0 0]):=row_below HVua11.out hqua12
   clear hqua12 haua12
   go_wp2_with fail
   have HBua12:Hid (Below w1.heap.size w1 ua12):=hbua12
   refine hK.out _ _ hbua12 (fun hHeldua12=>?_)
   clear hK KK hbua12
   try go_frame
   refine wpAnyH_ready (rs:=[4]) (by kernel_rfl) (by simp) ?_
   refine AllReadyH.cons rfl (fun KK hK=>?_) AllReadyH.nil
   go_simp
   refine(HSPEC.out _ _ _ _ _ _ HPua12.out HMua12.out).mono ?_
   rintro e ua13⟨x,rfl,hqua13,haua13⟩
   have hbua13:Below w1.heap.size w1 ua13:=HBua12.out.trans (hqua13.mono HBua12.out.size)
   have HNua13:Hid (Ans ua13 w1.heap.size x.val o):=Ans.mono haua13 HBua12.out.size
   have HVua13:Hid (ua13.ownsRow w1.heap.size 28 9 (.slice (some ⟨w1.heap.size,0,none⟩) 1 1) 1 [.slice none 0 0,.bool false,.bool false,.bool false,.bool false,.slice none 0 0,.int .i64 0,.int .i64 0,.slice none 0 0]):=row_below HVua12.out hqua13
   clear hqua13 haua13
   go_wp2_with fail
   simp only[MVl.val]
   have HBua13:Hid (Below w1.heap.size w1 ua13):=hbua13
   refine hK.out _ _ hbua13 (fun hHeldua13=>?_)
   clear hK KK hbua13
   try go_frame
   obtain⟨k0,k1,k2,k3,k4,k5,k6,k7,k8⟩:=cells9 HVua13.out
   have kf:∀i,ua13.frozen? ⟨w1.heap.size,i,none⟩=false:=fun i=>HVua13.out.frozenAt i
   have kl:w1.heap.size<ua13.heap.size:=(HVua13.out.lt _ rfl).2
   have kw:w1.heap.size<=w1.heap.size:=(HVua13.out.lt _ rfl).1
   refine wpAnyH_ready (rs:=[6]) (by kernel_rfl) (by simp) ?_
   refine AllReadyH.cons rfl (fun KK hK=>?_) AllReadyH.nil
   go_simp
   have hE:=var_put x HVua13.out HNua13.out HBua13.out
   refine hK.out _ _ hE.2.2 (fun hHeldV=>?_)
   clear hK KK
   refine wpAnyH_done (by kernel_rfl) ?_ _
   go_wp2_with fail
   go_meet
   exact⟨w1.heap.size,x,rfl,hE.1,hE.2.1,hE.2.2⟩
 case rest=>
 obtain⟨B6,x6,rfl,rv6,n6,b6⟩:=hcut
 have HV6:Hid (wc.ownsRow w1.heap.size 28 9 (.slice (some ⟨B6,0,none⟩) 1 1) 1 [.slice x6.aR x6.nR x6.cR,.bool x6.z,.bool x6.c,.bool x6.hz,.bool x6.hc,.slice x6.aH x6.nH x6.cH,.int .i64 x6.pc,.int .i64 x6.st,.slice x6.aO x6.nO x6.cO]):=rv6
 have HN6:Hid (Ans wc w1.heap.size x6.val o):=n6
 have HBX:Hid (Below w.heap.size w wc):=HB1.out.trans (b6.mono HB1.out.size)
 have HXAc:Hid (wc.ownsRow w.heap.size 42 9 (.slice (some ⟨w.heap.size,0,none⟩) 1 1) 1 [.slice aoR nR capR,.bool z,.bool c,.bool hz,.bool hc,.slice aoH nH capH,.int .i64 pc,.int .i64 st,.slice aoO nO capO]):=row_below HXA1.out b6
 have lB6:=(rv6.lt B6 rfl).2
 have zc:w1.heap.size<=wc.heap.size:=b6.size
 clear rv6 n6 b6 A0 A1 A2 A3 A4 A5 A6 A7 A8
 go_wp2_with fail
 refine(HTOI.out _ HBX.out).mono ?_
 rintro e w2⟨rfl,q2,hP2⟩
 have HP2:Hid (Arr w2 wc.heap.size (len*6) (insF F)):=hP2
 have HQ2:Hid (Below wc.heap.size wc w2):=q2
 have HXA2:Hid (w2.ownsRow w.heap.size 42 9 (.slice (some ⟨w.heap.size,0,none⟩) 1 1) 1 [.slice aoR nR capR,.bool z,.bool c,.bool hz,.bool hc,.slice aoH nH capH,.int .i64 pc,.int .i64 st,.slice aoO nO capO]):=row_below HXAc.out q2
 have HB2:Hid (Below w.heap.size w w2):=HBX.out.trans (q2.mono HBX.out.size)
 have z2:wc.heap.size<w2.heap.size:=hP2.lt
 obtain⟨a0,a1,a2,a3,a4,a5,a6,a7,a8⟩:=cells9 HXA2.out
 have ya:w.heap.size<w2.heap.size:=by omega
 clear hP2 q2
 go_wp2_with fail
 refine(HTOM.out _ HB2.out).mono ?_
 rintro e w3⟨bR,bH,blk,bO,hbR,rfl,q3,hM3⟩
 have HM3:Hid (MachCp w3 bR nR R bH nH Hp blk bO nO K V):=hM3
 have HQ3:Hid (Below w2.heap.size w2 w3):=q3
 have z3:w2.heap.size<=w3.heap.size:=q3.size
 clear hM3 q3 a0 a1 a2 a3 a4 a5 a6 a7 a8
 go_wp2_with fail
 generalize hw4:w3.alloc (.cells #[.slice (some ⟨bR,0,none⟩) nR nR,.bool z,.bool c,.bool hz,.bool hc,.slice (some ⟨bH,0,none⟩) nH nH,.int .i64 pc,.int .i64 st,.slice (some ⟨bO,0,none⟩) nO nO] 28)=w4
 have q4:Below w3.heap.size w3 w4:=by rw[<-hw4];exact(Below.refl _ _).alloc (Nat.le_refl _) _
 have v8:w4.ownsRow w3.heap.size 28 9 (.slice (some ⟨w3.heap.size,0,none⟩) 1 1) 1 [.slice (some ⟨bR,0,none⟩) nR nR,.bool z,.bool c,.bool hz,.bool hc,.slice (some ⟨bH,0,none⟩) nH nH,.int .i64 pc,.int .i64 st,.slice (some ⟨bO,0,none⟩) nO nO]:=by rw[<-hw4];exact World.ownsRow_lit w3 #[.slice (some ⟨bR,0,none⟩) nR nR,.bool z,.bool c,.bool hz,.bool hc,.slice (some ⟨bH,0,none⟩) nH nH,.int .i64 pc,.int .i64 st,.slice (some ⟨bO,0,none⟩) nO nO] 1 (Nat.le_refl _) (by unfold maxLen;omega) rfl
 have z4:w3.heap.size<w4.heap.size:=by rw[<-hw4];simp
 have HQ4y:Hid (∀q,q<w3.heap.size->w4.heap[q]?=w3.heap[q]?):=fun q h=>q4.block q h
 have HV8:Hid (w4.ownsRow w3.heap.size 28 9 (.slice (some ⟨w3.heap.size,0,none⟩) 1 1) 1 [.slice (some ⟨bR,0,none⟩) nR nR,.bool z,.bool c,.bool hz,.bool hc,.slice (some ⟨bH,0,none⟩) nH nH,.int .i64 pc,.int .i64 st,.slice (some ⟨bO,0,none⟩) nO nO]):=v8
 have HQ4:Hid (Below w2.heap.size w2 w4):=HQ3.out.trans (q4.mono HQ3.out.size)
 have HM4:Hid (MachCp w4 bR nR R bH nH Hp blk bO nO K V):=HM3.out.below q4 (Nat.le_refl _)
 have HP4:Hid (Arr w4 wc.heap.size (len*6) (insF F)):=HP2.out.below HQ4.out z2
 clear hw4 q4 v8
 refine(HIMPL.out _ _ _ _ _ _ HP4.out HM4.out).mono ?_
 rintro e w5⟨x9,rfl,q5,n9⟩
 have HN9:Hid (Ans w5 w4.heap.size x9.val o):=n9
 have HQ5:Hid (Below w4.heap.size w4 w5):=q5
 have z5:w4.heap.size<=w5.heap.size:=q5.size
 clear n9 q5
 simp only[MVl.val]
 go_upto_region 12 with fail
 generalize hw6:w5.alloc (.cells #[.slice x9.aR x9.nR x9.cR,.bool x9.z,.bool x9.c,.bool x9.hz,.bool x9.hc,.slice x9.aH x9.nH x9.cH,.int .i64 x9.pc,.int .i64 x9.st,.slice x9.aO x9.nO x9.cO] 28)=w6
 have q6:Below w5.heap.size w5 w6:=by rw[<-hw6];exact(Below.refl _ _).alloc (Nat.le_refl _) _
 have v9:w6.ownsRow w5.heap.size 28 9 (.slice (some ⟨w5.heap.size,0,none⟩) 1 1) 1 [.slice x9.aR x9.nR x9.cR,.bool x9.z,.bool x9.c,.bool x9.hz,.bool x9.hc,.slice x9.aH x9.nH x9.cH,.int .i64 x9.pc,.int .i64 x9.st,.slice x9.aO x9.nO x9.cO]:=by rw[<-hw6];exact World.ownsRow_lit w5 #[.slice x9.aR x9.nR x9.cR,.bool x9.z,.bool x9.c,.bool x9.hz,.bool x9.hc,.slice x9.aH x9.nH x9.cH,.int .i64 x9.pc,.int .i64 x9.st,.slice x9.aO x9.nO x9.cO] 1 (Nat.le_refl _) (by unfold maxLen;omega) rfl
 have z6:w5.heap.size<w6.heap.size:=by rw[<-hw6];simp
 have HQ6:Hid (Below w5.heap.size w5 w6):=q6
 have HV9:Hid (w6.ownsRow w5.heap.size 28 9 (.slice (some ⟨w5.heap.size,0,none⟩) 1 1) 1 [.slice x9.aR x9.nR x9.cR,.bool x9.z,.bool x9.c,.bool x9.hz,.bool x9.hc,.slice x9.aH x9.nH x9.cH,.int .i64 x9.pc,.int .i64 x9.st,.slice x9.aO x9.nO x9.cO]):=v9
 have HC6:Hid (Below wc.heap.size wc w6):=HQ2.out.trans ((HQ4.out.trans ((HQ5.out.trans (q6.mono (by omega))).mono (by omega))).mono (by omega))
 have k6:=row_below HV6.out HC6.out
 have N66:=HN6.out.below HC6.out
 have N96:=HN9.out.below q6
 obtain⟨c0,c1,c2,c3,c4,c5,c6,c7,c8⟩:=cells9 k6
 obtain⟨d0,d1,d2,d3,d4,d5,d6,d7,d8⟩:=cells9 v9
 have lb6:B6<w6.heap.size:=by omega
 clear hw6 q6 v9 k6
 go_wp2_with fail
 refine(eqMach_ans (v:=x9.val) (v':=x6.val) HSA.out N96 N66).mono ?_
 rintro e w7⟨rfl,q7⟩
 have HQ7:Hid (Below w6.heap.size w6 w7):=q7
 have z7:w6.heap.size<=w7.heap.size:=q7.size
 clear q7 N66 N96 c0 d0 c1 d1 c2 d2 c3 d3 c4 d4 c5 d5 c6 d6 c7 d7 c8 d8
 have HB7:Hid (Below w.heap.size w w7):=HBX.out.trans ((HC6.out.trans (HQ7.out.mono (by omega))).mono HBX.out.size)
 go_wp2_with fail
 refine(HTOI.out _ HB7.out).mono ?_
 rintro e w8⟨rfl,q8,hP8⟩
 have HP8:Hid (Arr w8 w7.heap.size (len*6) (insF F)):=hP8
 have HQ8:Hid (Below w7.heap.size w7 w8):=q8
 have z8:w7.heap.size<=w8.heap.size:=q8.size
 have HD8:Hid (Below w6.heap.size w6 w8):=HQ7.out.trans (q8.mono z7)
 have HE8:Hid (Below w4.heap.size w4 w8):=(HQ5.out.trans ((HQ6.out.trans (HD8.out.mono (by omega))).mono (by omega)))
 have HPx:Hid (Arr w8 wc.heap.size (len*6) (insF F)):=HP4.out.below HE8.out HP4.out.lt
 clear q8 hP8
 go_wp2_with fail
 refine(eqInsS_same _ _ _ _ _ _ _ F _ hlen HPx.out.at HP8.out.at).mono ?_
 rintro e w9⟨rfl,q9⟩
 have z9:w8.heap.size<=w9.heap.size:=q9.size
 have HE9:Hid (Below w4.heap.size w4 w9):=HE8.out.trans (q9.mono (by omega))
 have HD9:Hid (Below w6.heap.size w6 w9):=HD8.out.trans (q9.mono (by omega))
 have HB9:Hid (Below w.heap.size w w9):=HB7.out.trans ((HQ8.out.trans (q9.mono (by omega))).mono HB7.out.size)
 have HP9:Hid (Arr w9 wc.heap.size (len*6) (insF F)):=HPx.out.below q9 HPx.out.lt
 have HM9:Hid (MachCp w9 bR nR R bH nH Hp blk bO nO K V):=HM4.out.below HE9.out (Nat.le_refl _)
 have HXA9:Hid (w9.ownsRow w.heap.size 42 9 (.slice (some ⟨w.heap.size,0,none⟩) 1 1) 1 [.slice aoR nR capR,.bool z,.bool c,.bool hz,.bool hc,.slice aoH nH capH,.int .i64 pc,.int .i64 st,.slice aoO nO capO]):=row_below HXA2.out ((HQ4.out.trans (HE9.out.mono (by omega))))
 have HV89:Hid (w9.ownsRow w3.heap.size 28 9 (.slice (some ⟨w3.heap.size,0,none⟩) 1 1) 1 [.slice (some ⟨bR,0,none⟩) nR nR,.bool z,.bool c,.bool hz,.bool hc,.slice (some ⟨bH,0,none⟩) nH nH,.int .i64 pc,.int .i64 st,.slice (some ⟨bO,0,none⟩) nO nO]):=row_below HV8.out HE9.out
 clear q9
 go_upto_region 16 with fail
 obtain⟨a0,a1,a2,a3,a4,a5,a6,a7,a8⟩:=cells9 HXA9.out
 obtain⟨c0,c1,c2,c3,c4,c5,c6,c7,c8⟩:=cells9 HV89.out
 have ya9:w.heap.size<w9.heap.size:=by omega
 have yc9:w3.heap.size<w9.heap.size:=by omega
 have A0:∀w',Below w9.heap.size w9 w'->w'.cell? ⟨w.heap.size,0,none⟩=some (.slice aoR nR capR):=fun w' h=>(h.cell (p:=⟨w.heap.size,0,none⟩) ya9).trans a0
 have A1:∀w',Below w9.heap.size w9 w'->w'.cell? ⟨w.heap.size,1,none⟩=some (.bool z):=fun w' h=>(h.cell (p:=⟨w.heap.size,1,none⟩) ya9).trans a1
 have A2:∀w',Below w9.heap.size w9 w'->w'.cell? ⟨w.heap.size,2,none⟩=some (.bool c):=fun w' h=>(h.cell (p:=⟨w.heap.size,2,none⟩) ya9).trans a2
 have A3:∀w',Below w9.heap.size w9 w'->w'.cell? ⟨w.heap.size,3,none⟩=some (.bool hz):=fun w' h=>(h.cell (p:=⟨w.heap.size,3,none⟩) ya9).trans a3
 have A4:∀w',Below w9.heap.size w9 w'->w'.cell? ⟨w.heap.size,4,none⟩=some (.bool hc):=fun w' h=>(h.cell (p:=⟨w.heap.size,4,none⟩) ya9).trans a4
 have A5:∀w',Below w9.heap.size w9 w'->w'.cell? ⟨w.heap.size,5,none⟩=some (.slice aoH nH capH):=fun w' h=>(h.cell (p:=⟨w.heap.size,5,none⟩) ya9).trans a5
 have A6:∀w',Below w9.heap.size w9 w'->w'.cell? ⟨w.heap.size,6,none⟩=some (.int .i64 pc):=fun w' h=>(h.cell (p:=⟨w.heap.size,6,none⟩) ya9).trans a6
 have A7:∀w',Below w9.heap.size w9 w'->w'.cell? ⟨w.heap.size,7,none⟩=some (.int .i64 st):=fun w' h=>(h.cell (p:=⟨w.heap.size,7,none⟩) ya9).trans a7
 have A8:∀w',Below w9.heap.size w9 w'->w'.cell? ⟨w.heap.size,8,none⟩=some (.slice aoO nO capO):=fun w' h=>(h.cell (p:=⟨w.heap.size,8,none⟩) ya9).trans a8
 have C0:∀w',Below w9.heap.size w9 w'->w'.cell? ⟨w3.heap.size,0,none⟩=some (.slice (some ⟨bR,0,none⟩) nR nR):=fun w' h=>(h.cell (p:=⟨w3.heap.size,0,none⟩) yc9).trans c0
 have C1:∀w',Below w9.heap.size w9 w'->w'.cell? ⟨w3.heap.size,1,none⟩=some (.bool z):=fun w' h=>(h.cell (p:=⟨w3.heap.size,1,none⟩) yc9).trans c1
 have C2:∀w',Below w9.heap.size w9 w'->w'.cell? ⟨w3.heap.size,2,none⟩=some (.bool c):=fun w' h=>(h.cell (p:=⟨w3.heap.size,2,none⟩) yc9).trans c2
 have C3:∀w',Below w9.heap.size w9 w'->w'.cell? ⟨w3.heap.size,3,none⟩=some (.bool hz):=fun w' h=>(h.cell (p:=⟨w3.heap.size,3,none⟩) yc9).trans c3
 have C4:∀w',Below w9.heap.size w9 w'->w'.cell? ⟨w3.heap.size,4,none⟩=some (.bool hc):=fun w' h=>(h.cell (p:=⟨w3.heap.size,4,none⟩) yc9).trans c4
 have C5:∀w',Below w9.heap.size w9 w'->w'.cell? ⟨w3.heap.size,5,none⟩=some (.slice (some ⟨bH,0,none⟩) nH nH):=fun w' h=>(h.cell (p:=⟨w3.heap.size,5,none⟩) yc9).trans c5
 have C6:∀w',Below w9.heap.size w9 w'->w'.cell? ⟨w3.heap.size,6,none⟩=some (.int .i64 pc):=fun w' h=>(h.cell (p:=⟨w3.heap.size,6,none⟩) yc9).trans c6
 have C7:∀w',Below w9.heap.size w9 w'->w'.cell? ⟨w3.heap.size,7,none⟩=some (.int .i64 st):=fun w' h=>(h.cell (p:=⟨w3.heap.size,7,none⟩) yc9).trans c7
 have C8:∀w',Below w9.heap.size w9 w'->w'.cell? ⟨w3.heap.size,8,none⟩=some (.slice (some ⟨bO,0,none⟩) nO nO):=fun w' h=>(h.cell (p:=⟨w3.heap.size,8,none⟩) yc9).trans c8
 clear a0 c0 a1 c1 a2 c2 a3 c3 a4 c4 a5 c5 a6 c6 a7 c7 a8 c8
 refine wp_region_held_drew (S:=fun w'=>Below w9.heap.size w9 w') (by kernel_rfl) (Below.refl _ _).drew (fun hHeld=>?_)
 refine wpAnyH_tk 0 ?rv0 rfl ?ry0 ?rr0
 case ry0=>(intro w hSw;(try dsimp only at hSw);go_simp;try with_reducible rfl)
 try go_frame
 refine wpAnyH_tk 1 ?rv1 rfl ?ry1 ?rr1
 case ry1=>(intro w hSw;(try dsimp only at hSw);go_simp;try with_reducible rfl)
 try go_frame
 refine wpAnyH_ready (rs:=[2]) (by kernel_rfl) (by simp) ?_
 refine AllReadyH.cons rfl (fun KK hK=>?_) AllReadyH.nil
 go_simp
 refine(HTOM.out w9.drew (HB9.out.trans ((Below.refl _ _).drew))).mono ?_
 rintro e u1⟨bR2,bH2,blk2,bO2,hbR2,rfl,qu1,hMu1⟩
 have bu1:Below w9.heap.size w9 u1:=(Below.refl _ _).drew.trans qu1
 have HBu1:Hid (Below w9.heap.size w9 u1):=bu1
 have HMu1:Hid (MachCp u1 bR2 nR R bH2 nH Hp blk2 bO2 nO K V):=hMu1
 clear qu1 hMu1
 go_wp2_with fail
 refine hK.out _ _ bu1 (fun hHeld2=>?_)
 clear hK KK bu1
 try go_frame
 refine wpAnyH_ready (rs:=[3]) (by kernel_rfl) (by simp) ?_
 refine AllReadyH.cons rfl (fun KK hK=>?_) AllReadyH.nil
 go_simp
 refine(eqMach_same _ _ R _ _ _ _ _ _ Hp blk _ _ _ _ K V _ _ blk2 _ _ HS.out (HM9.out.below HBu1.out (Nat.le_refl _)) HMu1.out).mono ?_
 rintro e u2⟨rfl,qu2⟩
 have bu2:Below w9.heap.size w9 u2:=HBu1.out.trans (qu2.mono HBu1.out.size)
 have HBu2:Hid (Below w9.heap.size w9 u2):=bu2
 clear qu2
 go_wp2_with fail
 refine hK.out _ _ bu2 (fun hHeld3=>?_)
 clear hK KK bu2
 try go_frame
 refine wpAnyH_tk 4 ?rv4 rfl ?ry4 ?rr4
 case ry4=>(intro w hSw;(try dsimp only at hSw);go_simp;try with_reducible rfl)
 try go_frame
 refine wpAnyH_done (by kernel_rfl) ?_ _
 have z10:w9.heap.size<=u2.heap.size:=HBu2.out.size
 have HD10:Hid (Below w6.heap.size w6 u2):=HD9.out.trans (HBu2.out.mono (by omega))
 have HE10:Hid (Below w4.heap.size w4 u2):=HE9.out.trans (HBu2.out.mono (by omega))
 have HP10:Hid (Arr u2 wc.heap.size (len*6) (insF F)):=HP9.out.below HBu2.out HP9.out.lt
 have HM10:Hid (MachCp u2 bR nR R bH nH Hp blk bO nO K V):=HM9.out.below HBu2.out (Nat.le_refl _)
 have HV10:Hid (u2.ownsRow w3.heap.size 28 9 (.slice (some ⟨w3.heap.size,0,none⟩) 1 1) 1 [.slice (some ⟨bR,0,none⟩) nR nR,.bool z,.bool c,.bool hz,.bool hc,.slice (some ⟨bH,0,none⟩) nH nH,.int .i64 pc,.int .i64 st,.slice (some ⟨bO,0,none⟩) nO nO]):=row_below HV89.out HBu2.out
 clear hHeld hHeld2 hHeld3 A0 A1 A2 A3 A4 A5 A6 A7 A8 C0 C1 C2 C3 C4 C5 C6 C7 C8
 go_wp2_with fail
 refine(markIns_at _ _ _ _ _ _ hlen (by omega) (by omega) HP10.out).mono ?_
 rintro e w11⟨rfl,F11⟩
 have z11:u2.heap.size<=w11.heap.size:=F11.size
 have HF11:Hid (Fr (fun q=>q=wc.heap.size) u2 w11):=F11
 have HV11:Hid (w11.ownsRow w3.heap.size 28 9 (.slice (some ⟨w3.heap.size,0,none⟩) 1 1) 1 [.slice (some ⟨bR,0,none⟩) nR nR,.bool z,.bool c,.bool hz,.bool hc,.slice (some ⟨bH,0,none⟩) nH nH,.int .i64 pc,.int .i64 st,.slice (some ⟨bO,0,none⟩) nO nO]):=row_at HV10.out fun k hk=>F11.block k (HV10.out.lt k hk).2 (by have:=(HV10.out.lt k hk).1;omega)
 have HW11:Hid (WMr w11 bR w3.heap.size ⟨some ⟨bR,0,none⟩,nR,nR,z,c,hz,hc,some ⟨bH,0,none⟩,nH,nH,pc,st,some ⟨bO,0,none⟩,nO,nO⟩ (fun i=>(Hp i).moved (blk i))):=WMr.at (MachCp.wm HS.out HM3.out nR z c hz hc nH pc st nO) (by omega) (fun q h1 h2=>((F11.block q (by omega) (by show¬q=wc.heap.size;omega)).trans (HE10.out.block q (by omega))).trans (HQ4y.out q h2))
 obtain⟨c0,c1,c2,c3,c4,c5,c6,c7,c8⟩:=cells9 HV11.out
 have y11:w3.heap.size<w11.heap.size:=by omega
 clear F11
 go_wp2_with fail
 refine(markMach_any _ _ _ _ _ _ _ _ _ _ (fun i=>(Hp i).moved (blk i)) _ _ _ _ _ _ w11 (by omega) (by omega) HW11.out.r HW11.out.h HW11.out.l HW11.out.o HW11.out.wm).mono ?_
 rintro e w12⟨rfl,F12,_⟩
 have hkb:=sumK_bound (fun i=>(Hp i).moved (blk i)) (1+6*(len:Int)+nR) nH HW11.out.l
 obtain⟨kb0,kb1⟩:=hkb
 generalize sumK (fun i=>(Hp i).moved (blk i)) (1+6*(len:Int)+nR) nH=kk at kb0 kb1⊢
 have z12:w11.heap.size<=w12.heap.size:=F12.size
 have HT12:Hid (Fr (fun q=>wc.heap.size<=q/\q<w3.heap.size) u2 w12):=(HF11.out.mono fun q(hq:q=wc.heap.size)=>⟨by omega,by omega⟩).trans (F12.mono fun q hq=>⟨by have:=(HW11.out.s q hq).1;omega,(HW11.out.s q hq).2⟩)
 have HC12:Hid (Below wc.heap.size wc w12):=(HC6.out.trans (HD10.out.mono (by omega))).trans (HT12.out.toBelow (by omega) fun q hq=>hq.1)
 have HH12:Hid (∀k,w4.heap.size<=k->k<w6.heap.size->w12.heap[k]?=w6.heap[k]?):=fun k h1 h2=>(HT12.out.block k (by omega) (fun hq=>by omega)).trans (HD10.out.block k h2)
 have N12:Ans w12 w4.heap.size x9.val o:=HN9.out.at fun k h1 h2=>(HH12.out k h1 (by omega)).trans (HQ6.out.block k h2)
 have M12:Ans w12 w1.heap.size x6.val o:=HN6.out.below HC12.out
 have V12:w12.ownsRow w5.heap.size 28 9 (.slice (some ⟨w5.heap.size,0,none⟩) 1 1) 1 [.slice x9.aR x9.nR x9.cR,.bool x9.z,.bool x9.c,.bool x9.hz,.bool x9.hc,.slice x9.aH x9.nH x9.cH,.int .i64 x9.pc,.int .i64 x9.st,.slice x9.aO x9.nO x9.cO]:=row_at HV9.out fun k hk=>HH12.out k (by have:=(HV9.out.lt k hk).1;omega) (HV9.out.lt k hk).2
 have U12:=row_below HV6.out HC12.out
 obtain⟨d0,d1,d2,d3,d4,d5,d6,d7,d8⟩:=cells9 U12
 clear c0 c1 c2 c3 c4 c5 c6 c7 c8
 obtain⟨c0,c1,c2,c3,c4,c5,c6,c7,c8⟩:=cells9 V12
 have HV12:Hid (w12.ownsRow w5.heap.size 28 9 (.slice (some ⟨w5.heap.size,0,none⟩) 1 1) 1 [.slice x9.aR x9.nR x9.cR,.bool x9.z,.bool x9.c,.bool x9.hz,.bool x9.hc,.slice x9.aH x9.nH x9.cH,.int .i64 x9.pc,.int .i64 x9.st,.slice x9.aO x9.nO x9.cO]):=V12
 have l6:B6<w12.heap.size:=by omega
 have l9:w5.heap.size<w12.heap.size:=by omega
 have nk:¬(kk+2*(nO:Int))<0:=by omega
 clear F12 V12 U12
 go_wp2_with fail
 refine(eqMach_ans (v:=x9.val) (v':=x6.val) HSA.out N12 M12).mono ?_
 rintro e w13⟨rfl,q13⟩
 have z13:w12.heap.size<=w13.heap.size:=q13.size
 have HQ13:Hid (Below w12.heap.size w12 w13):=q13
 have HV13:Hid (w13.ownsRow w5.heap.size 28 9 (.slice (some ⟨w5.heap.size,0,none⟩) 1 1) 1 [.slice x9.aR x9.nR x9.cR,.bool x9.z,.bool x9.c,.bool x9.hz,.bool x9.hc,.slice x9.aH x9.nH x9.cH,.int .i64 x9.pc,.int .i64 x9.st,.slice x9.aO x9.nO x9.cO]):=row_below HV12.out q13
 have HC13:Hid (Below wc.heap.size wc w13):=HC12.out.trans (q13.mono (by omega))
 clear q13 N12 M12 c0 d0 c1 d1 c2 d2 c3 d3 c4 d4 c5 d5 c6 d6 c7 d7 c8 d8
 obtain⟨Hq,hwm⟩:=Ans.wm HSA.out HN9.out
 have HW13:Hid (WMr w13 w4.heap.size w5.heap.size x9 Hq):=hwm.at (by omega) (fun q h1 h2=>(HQ13.out.block q (by omega)).trans ((HH12.out q h1 (by omega)).trans (HQ6.out.block q h2)))
 clear hwm
 obtain⟨c0,c1,c2,c3,c4,c5,c6,c7,c8⟩:=cells9 HV13.out
 have l13:w5.heap.size<w13.heap.size:=by omega
 go_wp2_with fail
 refine(markMach_any _ _ _ _ _ _ _ _ _ _ Hq _ _ _ _ _ _ w13 (by omega) (by omega) HW13.out.r HW13.out.h HW13.out.l HW13.out.o HW13.out.wm).mono ?_
 rintro e w14⟨rfl,F14,MK14⟩
 have z14:w13.heap.size<=w14.heap.size:=F14.size
 have HMK:Hid (Mkd w14 x9.aR x9.nR x9.aH x9.nH Hq x9.aO x9.nO 1):=MK14
 have HV14:Hid (w14.ownsRow w5.heap.size 28 9 (.slice (some ⟨w5.heap.size,0,none⟩) 1 1) 1 [.slice x9.aR x9.nR x9.cR,.bool x9.z,.bool x9.c,.bool x9.hz,.bool x9.hc,.slice x9.aH x9.nH x9.cH,.int .i64 x9.pc,.int .i64 x9.st,.slice x9.aO x9.nO x9.cO]):=row_at HV13.out fun k hk=>F14.block k (HV13.out.lt k hk).2 (fun hq=>by have:=(HW13.out.s k hq).2;have:=(HV13.out.lt k hk).1;omega)
 have HC14:Hid (Below wc.heap.size wc w14):=HC13.out.trans (F14.toBelow (by omega) fun q hq=>by have:=(HW13.out.s q hq).1;omega)
 clear F14 MK14 c0 c1 c2 c3 c4 c5 c6 c7 c8
 obtain⟨c0,c1,c2,c3,c4,c5,c6,c7,c8⟩:=cells9 HV14.out
 have l14:w5.heap.size<w14.heap.size:=by omega
 have hsb:=sumK_bound Hq (1+(x9.nR:Int)) x9.nH HW13.out.l
 obtain⟨sb0,sb1⟩:=hsb
 go_wp2_with fail
 refine(heldMach_any _ _ _ _ _ _ _ _ _ _ Hq _ _ _ _ _ _ w14 (by omega) (by omega) HW13.out.r HW13.out.h HW13.out.l HW13.out.o HMK.out).mono ?_
 rintro e w15⟨rfl,q15⟩
 have z15:w14.heap.size<=w15.heap.size:=q15.size
 generalize sumK Hq (1+(x9.nR:Int)) x9.nH=ss at sb0 sb1⊢
 have nS:¬(ss+2*(x9.nO:Int))<0:=by omega
 have HC15:Hid (Below wc.heap.size wc w15):=HC14.out.trans (q15.mono (by omega))
 have HB15:Hid (Below w.heap.size w w15):=HBX.out.trans (HC15.out.mono HBX.out.size)
 have HXA15:Hid (w15.ownsRow w.heap.size 42 9 (.slice (some ⟨w.heap.size,0,none⟩) 1 1) 1 [.slice aoR nR capR,.bool z,.bool c,.bool hz,.bool hc,.slice aoH nH capH,.int .i64 pc,.int .i64 st,.slice aoO nO capO]):=row_below HXAc.out HC15.out
 have HV615:Hid (w15.ownsRow w1.heap.size 28 9 (.slice (some ⟨B6,0,none⟩) 1 1) 1 [.slice x6.aR x6.nR x6.cR,.bool x6.z,.bool x6.c,.bool x6.hz,.bool x6.hc,.slice x6.aH x6.nH x6.cH,.int .i64 x6.pc,.int .i64 x6.st,.slice x6.aO x6.nO x6.cO]):=row_below HV6.out HC15.out
 have HN615:Hid (Ans w15 w1.heap.size x6.val o):=HN6.out.below HC15.out
 have za15:w.heap.size<w15.heap.size:=by omega
 have lb15:B6<w15.heap.size:=by omega
 clear q15 c0 c1 c2 c3 c4 c5 c6 c7 c8
 go_upto_region 31 with fail
 obtain⟨a0,a1,a2,a3,a4,a5,a6,a7,a8⟩:=cells9 HXA15.out
 have A0:∀w',Below w15.heap.size w15 w'->w'.cell? ⟨w.heap.size,0,none⟩=some (.slice aoR nR capR):=fun w' h=>(h.cell (p:=⟨w.heap.size,0,none⟩) za15).trans a0
 have A1:∀w',Below w15.heap.size w15 w'->w'.cell? ⟨w.heap.size,1,none⟩=some (.bool z):=fun w' h=>(h.cell (p:=⟨w.heap.size,1,none⟩) za15).trans a1
 have A2:∀w',Below w15.heap.size w15 w'->w'.cell? ⟨w.heap.size,2,none⟩=some (.bool c):=fun w' h=>(h.cell (p:=⟨w.heap.size,2,none⟩) za15).trans a2
 have A3:∀w',Below w15.heap.size w15 w'->w'.cell? ⟨w.heap.size,3,none⟩=some (.bool hz):=fun w' h=>(h.cell (p:=⟨w.heap.size,3,none⟩) za15).trans a3
 have A4:∀w',Below w15.heap.size w15 w'->w'.cell? ⟨w.heap.size,4,none⟩=some (.bool hc):=fun w' h=>(h.cell (p:=⟨w.heap.size,4,none⟩) za15).trans a4
 have A5:∀w',Below w15.heap.size w15 w'->w'.cell? ⟨w.heap.size,5,none⟩=some (.slice aoH nH capH):=fun w' h=>(h.cell (p:=⟨w.heap.size,5,none⟩) za15).trans a5
 have A6:∀w',Below w15.heap.size w15 w'->w'.cell? ⟨w.heap.size,6,none⟩=some (.int .i64 pc):=fun w' h=>(h.cell (p:=⟨w.heap.size,6,none⟩) za15).trans a6
 have A7:∀w',Below w15.heap.size w15 w'->w'.cell? ⟨w.heap.size,7,none⟩=some (.int .i64 st):=fun w' h=>(h.cell (p:=⟨w.heap.size,7,none⟩) za15).trans a7
 have A8:∀w',Below w15.heap.size w15 w'->w'.cell? ⟨w.heap.size,8,none⟩=some (.slice aoO nO capO):=fun w' h=>(h.cell (p:=⟨w.heap.size,8,none⟩) za15).trans a8
 clear a0 a1 a2 a3 a4 a5 a6 a7 a8
 go_cut [13](fun s wx=>∃(B:Nat)(x:MVl),s=.pointer (some ⟨B,0,none⟩)/\wx.ownsRow w15.heap.size 28 9 (.slice (some ⟨B,0,none⟩) 1 1) 1 [.slice x.aR x.nR x.cR,.bool x.z,.bool x.c,.bool x.hz,.bool x.hc,.slice x.aH x.nH x.cH,.int .i64 x.pc,.int .i64 x.st,.slice x.aO x.nO x.cO]/\Ans wx w15.heap.size x.val o/\Below w15.heap.size w15 wx)
 case first=>
  have HBdb:Hid (Below w15.heap.size w15 w15.drew):=(Below.refl _ _).drew
  refine wp_region_held_drew (S:=fun w'=>Below w15.heap.size w15 w') (by kernel_rfl) HBdb.out (fun hHeld=>?_)
  refine wpAnyH_tk 0 ?bv0 rfl ?by0 ?br0
  case by0=>(intro w hSw;(try dsimp only at hSw);go_simp;try with_reducible rfl)
  try go_frame
  refine wpAnyH_tk 2 ?bv2 rfl ?by2 ?br2
  case by2=>(intro w hSw;(try dsimp only at hSw);go_simp;try with_reducible rfl)
  try go_frame
  refine wpAnyH_ready (rs:=[1,5]) (by kernel_rfl) (by simp) ?_
  refine AllReadyH.cons rfl (fun KK hK=>?_) (AllReadyH.cons rfl (fun KK hK=>?_) AllReadyH.nil)
  ·go_simp
   refine(HTOI.out _ (HB15.out.trans (HBdb.out.mono HB15.out.size))).mono ?_
   rintro e ub1⟨rfl,hqub1,haub1⟩
   have hbub1:Below w15.heap.size w15 ub1:=HBdb.out.trans (hqub1.mono HBdb.out.size)
   have HPub1:Hid (Arr ub1 w15.drew.heap.size (len*6) (insF F)):=haub1
   clear hqub1 haub1
   go_wp2_with fail
   have HBub1:Hid (Below w15.heap.size w15 ub1):=hbub1
   refine hK.out _ _ hbub1 (fun hHeldub1=>?_)
   clear hK KK hbub1
   try go_frame
   refine wpAnyH_ready (rs:=[3,5]) (by kernel_rfl) (by simp) ?_
   refine AllReadyH.cons rfl (fun KK hK=>?_) (AllReadyH.cons rfl (fun KK hK=>?_) AllReadyH.nil)
   ·go_simp
    refine(HTOM.out _ (HB15.out.trans (HBub1.out.mono HB15.out.size))).mono ?_
    rintro e ub2⟨bR,bH,blk,bO,hbR,rfl,hqub2,haub2⟩
    have hbub2:Below w15.heap.size w15 ub2:=HBub1.out.trans (hqub2.mono HBub1.out.size)
    have HMub2:Hid (MachCp ub2 bR nR R bH nH Hp blk bO nO K V):=haub2
    have HPub2:Hid (Arr ub2 (w15.drew.heap.size) (len*6) (insF F)):=HPub1.out.below hqub2 HPub1.out.lt
    clear hqub2 haub2
    go_wp2_with fail
    have HBub2:Hid (Below w15.heap.size w15 ub2):=hbub2
    refine hK.out _ _ hbub2 (fun hHeldub2=>?_)
    clear hK KK hbub2
    try go_frame
    refine wpAnyH_ready (rs:=[4,5]) (by kernel_rfl) (by simp) ?_
    refine AllReadyH.cons rfl (fun KK hK=>?_) (AllReadyH.cons rfl (fun KK hK=>?_) AllReadyH.nil)
    ·go_simp
     refine(HIMPL.out _ _ _ _ _ _ HPub2.out HMub2.out).mono ?_
     rintro e ub3⟨x,rfl,hqub3,haub3⟩
     have hbub3:Below w15.heap.size w15 ub3:=HBub2.out.trans (hqub3.mono HBub2.out.size)
     have HNub3:Hid (Ans ub3 w15.heap.size x.val o):=Ans.mono haub3 HBub2.out.size
     clear hqub3 haub3
     go_wp2_with fail
     simp only[MVl.val]
     have HBub3:Hid (Below w15.heap.size w15 ub3):=hbub3
     refine hK.out _ _ hbub3 (fun hHeldub3=>?_)
     clear hK KK hbub3
     try go_frame
     refine wpAnyH_ready (rs:=[5]) (by kernel_rfl) (by simp) ?_
     refine AllReadyH.cons rfl (fun KK hK=>?_) AllReadyH.nil
     go_simp
     have hqub4:Below ub3.heap.size ub3 (ub3.alloc (.cells #[.slice none 0 0,.bool false,.bool false,.bool false,.bool false,.slice none 0 0,.int .i64 0,.int .i64 0,.slice none 0 0] 28)):=(Below.refl _ _).alloc (Nat.le_refl _) _
     have hvub4:(ub3.alloc (.cells #[.slice none 0 0,.bool false,.bool false,.bool false,.bool false,.slice none 0 0,.int .i64 0,.int .i64 0,.slice none 0 0] 28)).ownsRow w15.heap.size 28 9 (.slice (some ⟨ub3.heap.size,0,none⟩) 1 1) 1 [.slice none 0 0,.bool false,.bool false,.bool false,.bool false,.slice none 0 0,.int .i64 0,.int .i64 0,.slice none 0 0]:=World.ownsRow_lit ub3 #[.slice none 0 0,.bool false,.bool false,.bool false,.bool false,.slice none 0 0,.int .i64 0,.int .i64 0,.slice none 0 0] 1 HBub3.out.size (by unfold maxLen;omega) rfl
     generalize ub3.alloc (.cells #[.slice none 0 0,.bool false,.bool false,.bool false,.bool false,.slice none 0 0,.int .i64 0,.int .i64 0,.slice none 0 0] 28)=ub4 at hqub4 hvub4⊢
     have hbub4:Below w15.heap.size w15 ub4:=HBub3.out.trans (hqub4.mono HBub3.out.size)
     have HVub4:Hid (ub4.ownsRow w15.heap.size 28 9 (.slice (some ⟨ub3.heap.size,0,none⟩) 1 1) 1 [.slice none 0 0,.bool false,.bool false,.bool false,.bool false,.slice none 0 0,.int .i64 0,.int .i64 0,.slice none 0 0]):=hvub4
     have HNub4:Hid (Ans ub4 w15.heap.size x.val o):=HNub3.out.below hqub4
     clear hqub4 hvub4
     have HBub4:Hid (Below w15.heap.size w15 ub4):=hbub4
     refine hK.out _ _ hbub4 (fun hHeldub4=>?_)
     clear hK KK hbub4
     try go_frame
     obtain⟨k0,k1,k2,k3,k4,k5,k6,k7,k8⟩:=cells9 HVub4.out
     have kf:∀i,ub4.frozen? ⟨ub3.heap.size,i,none⟩=false:=fun i=>HVub4.out.frozenAt i
     have kl:ub3.heap.size<ub4.heap.size:=(HVub4.out.lt _ rfl).2
     have kw:w15.heap.size<=ub3.heap.size:=(HVub4.out.lt _ rfl).1
     refine wpAnyH_ready (rs:=[6]) (by kernel_rfl) (by simp) ?_
     refine AllReadyH.cons rfl (fun KK hK=>?_) AllReadyH.nil
     go_simp
     have hE:=var_put x HVub4.out HNub4.out HBub4.out
     refine hK.out _ _ hE.2.2 (fun hHeldV=>?_)
     clear hK KK
     refine wpAnyH_done (by kernel_rfl) ?_ _
     go_wp2_with fail
     go_meet
     exact⟨ub3.heap.size,x,rfl,hE.1,hE.2.1,hE.2.2⟩
    ·go_simp
     have hqub5:Below ub2.heap.size ub2 (ub2.alloc (.cells #[.slice none 0 0,.bool false,.bool false,.bool false,.bool false,.slice none 0 0,.int .i64 0,.int .i64 0,.slice none 0 0] 28)):=(Below.refl _ _).alloc (Nat.le_refl _) _
     have hvub5:(ub2.alloc (.cells #[.slice none 0 0,.bool false,.bool false,.bool false,.bool false,.slice none 0 0,.int .i64 0,.int .i64 0,.slice none 0 0] 28)).ownsRow w15.heap.size 28 9 (.slice (some ⟨ub2.heap.size,0,none⟩) 1 1) 1 [.slice none 0 0,.bool false,.bool false,.bool false,.bool false,.slice none 0 0,.int .i64 0,.int .i64 0,.slice none 0 0]:=World.ownsRow_lit ub2 #[.slice none 0 0,.bool false,.bool false,.bool false,.bool false,.slice none 0 0,.int .i64 0,.int .i64 0,.slice none 0 0] 1 HBub2.out.size (by unfold maxLen;omega) rfl
     generalize ub2.alloc (.cells #[.slice none 0 0,.bool false,.bool false,.bool false,.bool false,.slice none 0 0,.int .i64 0,.int .i64 0,.slice none 0 0] 28)=ub5 at hqub5 hvub5⊢
     have hbub5:Below w15.heap.size w15 ub5:=HBub2.out.trans (hqub5.mono HBub2.out.size)
     have HVub5:Hid (ub5.ownsRow w15.heap.size 28 9 (.slice (some ⟨ub2.heap.size,0,none⟩) 1 1) 1 [.slice none 0 0,.bool false,.bool false,.bool false,.bool false,.slice none 0 0,.int .i64 0,.int .i64 0,.slice none 0 0]):=hvub5
     have HPub5:Hid (Arr ub5 (w15.drew.heap.size) (len*6) (insF F)):=HPub2.out.below hqub5 HPub2.out.lt
     have HMub5:Hid (MachCp ub5 bR nR R bH nH Hp blk bO nO K V):=HMub2.out.below hqub5 (Nat.le_refl _)
     clear hqub5 hvub5
     have HBub5:Hid (Below w15.heap.size w15 ub5):=hbub5
     refine hK.out _ _ hbub5 (fun hHeldub5=>?_)
     clear hK KK hbub5
     try go_frame
     refine wpAnyH_ready (rs:=[4]) (by kernel_rfl) (by simp) ?_
     refine AllReadyH.cons rfl (fun KK hK=>?_) AllReadyH.nil
     go_simp
     refine(HIMPL.out _ _ _ _ _ _ HPub5.out HMub5.out).mono ?_
     rintro e ub6⟨x,rfl,hqub6,haub6⟩
     have hbub6:Below w15.heap.size w15 ub6:=HBub5.out.trans (hqub6.mono HBub5.out.size)
     have HNub6:Hid (Ans ub6 w15.heap.size x.val o):=Ans.mono haub6 HBub5.out.size
     have HVub6:Hid (ub6.ownsRow w15.heap.size 28 9 (.slice (some ⟨ub2.heap.size,0,none⟩) 1 1) 1 [.slice none 0 0,.bool false,.bool false,.bool false,.bool false,.slice none 0 0,.int .i64 0,.int .i64 0,.slice none 0 0]):=row_below HVub5.out hqub6
     clear hqub6 haub6
     go_wp2_with fail
     simp only[MVl.val]
     have HBub6:Hid (Below w15.heap.size w15 ub6):=hbub6
     refine hK.out _ _ hbub6 (fun hHeldub6=>?_)
     clear hK KK hbub6
     try go_frame
     obtain⟨k0,k1,k2,k3,k4,k5,k6,k7,k8⟩:=cells9 HVub6.out
     have kf:∀i,ub6.frozen? ⟨ub2.heap.size,i,none⟩=false:=fun i=>HVub6.out.frozenAt i
     have kl:ub2.heap.size<ub6.heap.size:=(HVub6.out.lt _ rfl).2
     have kw:w15.heap.size<=ub2.heap.size:=(HVub6.out.lt _ rfl).1
     refine wpAnyH_ready (rs:=[6]) (by kernel_rfl) (by simp) ?_
     refine AllReadyH.cons rfl (fun KK hK=>?_) AllReadyH.nil
     go_simp
     have hE:=var_put x HVub6.out HNub6.out HBub6.out
     refine hK.out _ _ hE.2.2 (fun hHeldV=>?_)
     clear hK KK
     refine wpAnyH_done (by kernel_rfl) ?_ _
     go_wp2_with fail
     go_meet
     exact⟨ub2.heap.size,x,rfl,hE.1,hE.2.1,hE.2.2⟩
   ·go_simp
    have hqub7:Below ub1.heap.size ub1 (ub1.alloc (.cells #[.slice none 0 0,.bool false,.bool false,.bool false,.bool false,.slice none 0 0,.int .i64 0,.int .i64 0,.slice none 0 0] 28)):=(Below.refl _ _).alloc (Nat.le_refl _) _
    have hvub7:(ub1.alloc (.cells #[.slice none 0 0,.bool false,.bool false,.bool false,.bool false,.slice none 0 0,.int .i64 0,.int .i64 0,.slice none 0 0] 28)).ownsRow w15.heap.size 28 9 (.slice (some ⟨ub1.heap.size,0,none⟩) 1 1) 1 [.slice none 0 0,.bool false,.bool false,.bool false,.bool false,.slice none 0 0,.int .i64 0,.int .i64 0,.slice none 0 0]:=World.ownsRow_lit ub1 #[.slice none 0 0,.bool false,.bool false,.bool false,.bool false,.slice none 0 0,.int .i64 0,.int .i64 0,.slice none 0 0] 1 HBub1.out.size (by unfold maxLen;omega) rfl
    generalize ub1.alloc (.cells #[.slice none 0 0,.bool false,.bool false,.bool false,.bool false,.slice none 0 0,.int .i64 0,.int .i64 0,.slice none 0 0] 28)=ub7 at hqub7 hvub7⊢
    have hbub7:Below w15.heap.size w15 ub7:=HBub1.out.trans (hqub7.mono HBub1.out.size)
    have HVub7:Hid (ub7.ownsRow w15.heap.size 28 9 (.slice (some ⟨ub1.heap.size,0,none⟩) 1 1) 1 [.slice none 0 0,.bool false,.bool false,.bool false,.bool false,.slice none 0 0,.int .i64 0,.int .i64 0,.slice none 0 0]):=hvub7
    have HPub7:Hid (Arr ub7 (w15.drew.heap.size) (len*6) (insF F)):=HPub1.out.below hqub7 HPub1.out.lt
    clear hqub7 hvub7
    have HBub7:Hid (Below w15.heap.size w15 ub7):=hbub7
    refine hK.out _ _ hbub7 (fun hHeldub7=>?_)
    clear hK KK hbub7
    try go_frame
    refine wpAnyH_ready (rs:=[3]) (by kernel_rfl) (by simp) ?_
    refine AllReadyH.cons rfl (fun KK hK=>?_) AllReadyH.nil
    go_simp
    refine(HTOM.out _ (HB15.out.trans (HBub7.out.mono HB15.out.size))).mono ?_
    rintro e ub8⟨bR,bH,blk,bO,hbR,rfl,hqub8,haub8⟩
    have hbub8:Below w15.heap.size w15 ub8:=HBub7.out.trans (hqub8.mono HBub7.out.size)
    have HMub8:Hid (MachCp ub8 bR nR R bH nH Hp blk bO nO K V):=haub8
    have HPub8:Hid (Arr ub8 (w15.drew.heap.size) (len*6) (insF F)):=HPub7.out.below hqub8 HPub7.out.lt
    have HVub8:Hid (ub8.ownsRow w15.heap.size 28 9 (.slice (some ⟨ub1.heap.size,0,none⟩) 1 1) 1 [.slice none 0 0,.bool false,.bool false,.bool false,.bool false,.slice none 0 0,.int .i64 0,.int .i64 0,.slice none 0 0]):=row_below HVub7.out hqub8
    clear hqub8 haub8
    go_wp2_with fail
    have HBub8:Hid (Below w15.heap.size w15 ub8):=hbub8
    refine hK.out _ _ hbub8 (fun hHeldub8=>?_)
    clear hK KK hbub8
    try go_frame
    refine wpAnyH_ready (rs:=[4]) (by kernel_rfl) (by simp) ?_
    refine AllReadyH.cons rfl (fun KK hK=>?_) AllReadyH.nil
    go_simp
    refine(HIMPL.out _ _ _ _ _ _ HPub8.out HMub8.out).mono ?_
    rintro e ub9⟨x,rfl,hqub9,haub9⟩
    have hbub9:Below w15.heap.size w15 ub9:=HBub8.out.trans (hqub9.mono HBub8.out.size)
    have HNub9:Hid (Ans ub9 w15.heap.size x.val o):=Ans.mono haub9 HBub8.out.size
    have HVub9:Hid (ub9.ownsRow w15.heap.size 28 9 (.slice (some ⟨ub1.heap.size,0,none⟩) 1 1) 1 [.slice none 0 0,.bool false,.bool false,.bool false,.bool false,.slice none 0 0,.int .i64 0,.int .i64 0,.slice none 0 0]):=row_below HVub8.out hqub9
    clear hqub9 haub9
    go_wp2_with fail
    simp only[MVl.val]
    have HBub9:Hid (Below w15.heap.size w15 ub9):=hbub9
    refine hK.out _ _ hbub9 (fun hHeldub9=>?_)
    clear hK KK hbub9
    try go_frame
    obtain⟨k0,k1,k2,k3,k4,k5,k6,k7,k8⟩:=cells9 HVub9.out
    have kf:∀i,ub9.frozen? ⟨ub1.heap.size,i,none⟩=false:=fun i=>HVub9.out.frozenAt i
    have kl:ub1.heap.size<ub9.heap.size:=(HVub9.out.lt _ rfl).2
    have kw:w15.heap.size<=ub1.heap.size:=(HVub9.out.lt _ rfl).1
    refine wpAnyH_ready (rs:=[6]) (by kernel_rfl) (by simp) ?_
    refine AllReadyH.cons rfl (fun KK hK=>?_) AllReadyH.nil
    go_simp
    have hE:=var_put x HVub9.out HNub9.out HBub9.out
    refine hK.out _ _ hE.2.2 (fun hHeldV=>?_)
    clear hK KK
    refine wpAnyH_done (by kernel_rfl) ?_ _
    go_wp2_with fail
    go_meet
    exact⟨ub1.heap.size,x,rfl,hE.1,hE.2.1,hE.2.2⟩
  ·go_simp
   have hqub10:Below w15.heap.size w15 ((w15.alloc (.cells #[.slice none 0 0,.bool false,.bool false,.bool false,.bool false,.slice none 0 0,.int .i64 0,.int .i64 0,.slice none 0 0] 28)).drew):=((Below.refl _ _).alloc (Nat.le_refl _) _).drew
   have hvub10:((w15.alloc (.cells #[.slice none 0 0,.bool false,.bool false,.bool false,.bool false,.slice none 0 0,.int .i64 0,.int .i64 0,.slice none 0 0] 28)).drew).ownsRow w15.heap.size 28 9 (.slice (some ⟨w15.heap.size,0,none⟩) 1 1) 1 [.slice none 0 0,.bool false,.bool false,.bool false,.bool false,.slice none 0 0,.int .i64 0,.int .i64 0,.slice none 0 0]:=(World.ownsRow_lit w15 #[.slice none 0 0,.bool false,.bool false,.bool false,.bool false,.slice none 0 0,.int .i64 0,.int .i64 0,.slice none 0 0] 1 (Nat.le_refl _) (by unfold maxLen;omega) rfl).drew
   generalize(w15.alloc (.cells #[.slice none 0 0,.bool false,.bool false,.bool false,.bool false,.slice none 0 0,.int .i64 0,.int .i64 0,.slice none 0 0] 28)).drew=ub10 at hqub10 hvub10⊢
   have hbub10:Below w15.heap.size w15 ub10:=(Below.refl w15.heap.size w15).trans (hqub10.mono (Below.refl w15.heap.size w15).size)
   have HVub10:Hid (ub10.ownsRow w15.heap.size 28 9 (.slice (some ⟨w15.heap.size,0,none⟩) 1 1) 1 [.slice none 0 0,.bool false,.bool false,.bool false,.bool false,.slice none 0 0,.int .i64 0,.int .i64 0,.slice none 0 0]):=hvub10
   clear hqub10 hvub10
   have HBub10:Hid (Below w15.heap.size w15 ub10):=hbub10
   refine hK.out _ _ hbub10 (fun hHeldub10=>?_)
   clear hK KK hbub10
   try go_frame
   refine wpAnyH_ready (rs:=[1]) (by kernel_rfl) (by simp) ?_
   refine AllReadyH.cons rfl (fun KK hK=>?_) AllReadyH.nil
   go_simp
   refine(HTOI.out _ (HB15.out.trans (HBub10.out.mono HB15.out.size))).mono ?_
   rintro e ub11⟨rfl,hqub11,haub11⟩
   have hbub11:Below w15.heap.size w15 ub11:=HBub10.out.trans (hqub11.mono HBub10.out.size)
   have HPub11:Hid (Arr ub11 ub10.heap.size (len*6) (insF F)):=haub11
   have HVub11:Hid (ub11.ownsRow w15.heap.size 28 9 (.slice (some ⟨w15.heap.size,0,none⟩) 1 1) 1 [.slice none 0 0,.bool false,.bool false,.bool false,.bool false,.slice none 0 0,.int .i64 0,.int .i64 0,.slice none 0 0]):=row_below HVub10.out hqub11
   clear hqub11 haub11
   go_wp2_with fail
   have HBub11:Hid (Below w15.heap.size w15 ub11):=hbub11
   refine hK.out _ _ hbub11 (fun hHeldub11=>?_)
   clear hK KK hbub11
   try go_frame
   refine wpAnyH_ready (rs:=[3]) (by kernel_rfl) (by simp) ?_
   refine AllReadyH.cons rfl (fun KK hK=>?_) AllReadyH.nil
   go_simp
   refine(HTOM.out _ (HB15.out.trans (HBub11.out.mono HB15.out.size))).mono ?_
   rintro e ub12⟨bR,bH,blk,bO,hbR,rfl,hqub12,haub12⟩
   have hbub12:Below w15.heap.size w15 ub12:=HBub11.out.trans (hqub12.mono HBub11.out.size)
   have HMub12:Hid (MachCp ub12 bR nR R bH nH Hp blk bO nO K V):=haub12
   have HPub12:Hid (Arr ub12 (ub10.heap.size) (len*6) (insF F)):=HPub11.out.below hqub12 HPub11.out.lt
   have HVub12:Hid (ub12.ownsRow w15.heap.size 28 9 (.slice (some ⟨w15.heap.size,0,none⟩) 1 1) 1 [.slice none 0 0,.bool false,.bool false,.bool false,.bool false,.slice none 0 0,.int .i64 0,.int .i64 0,.slice none 0 0]):=row_below HVub11.out hqub12
   clear hqub12 haub12
   go_wp2_with fail
   have HBub12:Hid (Below w15.heap.size w15 ub12):=hbub12
   refine hK.out _ _ hbub12 (fun hHeldub12=>?_)
   clear hK KK hbub12
   try go_frame
   refine wpAnyH_ready (rs:=[4]) (by kernel_rfl) (by simp) ?_
   refine AllReadyH.cons rfl (fun KK hK=>?_) AllReadyH.nil
   go_simp
   refine(HIMPL.out _ _ _ _ _ _ HPub12.out HMub12.out).mono ?_
   rintro e ub13⟨x,rfl,hqub13,haub13⟩
   have hbub13:Below w15.heap.size w15 ub13:=HBub12.out.trans (hqub13.mono HBub12.out.size)
   have HNub13:Hid (Ans ub13 w15.heap.size x.val o):=Ans.mono haub13 HBub12.out.size
   have HVub13:Hid (ub13.ownsRow w15.heap.size 28 9 (.slice (some ⟨w15.heap.size,0,none⟩) 1 1) 1 [.slice none 0 0,.bool false,.bool false,.bool false,.bool false,.slice none 0 0,.int .i64 0,.int .i64 0,.slice none 0 0]):=row_below HVub12.out hqub13
   clear hqub13 haub13
   go_wp2_with fail
   simp only[MVl.val]
   have HBub13:Hid (Below w15.heap.size w15 ub13):=hbub13
   refine hK.out _ _ hbub13 (fun hHeldub13=>?_)
   clear hK KK hbub13
   try go_frame
   obtain⟨k0,k1,k2,k3,k4,k5,k6,k7,k8⟩:=cells9 HVub13.out
   have kf:∀i,ub13.frozen? ⟨w15.heap.size,i,none⟩=false:=fun i=>HVub13.out.frozenAt i
   have kl:w15.heap.size<ub13.heap.size:=(HVub13.out.lt _ rfl).2
   have kw:w15.heap.size<=w15.heap.size:=(HVub13.out.lt _ rfl).1
   refine wpAnyH_ready (rs:=[6]) (by kernel_rfl) (by simp) ?_
   refine AllReadyH.cons rfl (fun KK hK=>?_) AllReadyH.nil
   go_simp
   have hE:=var_put x HVub13.out HNub13.out HBub13.out
   refine hK.out _ _ hE.2.2 (fun hHeldV=>?_)
   clear hK KK
   refine wpAnyH_done (by kernel_rfl) ?_ _
   go_wp2_with fail
   go_meet
   exact⟨w15.heap.size,x,rfl,hE.1,hE.2.1,hE.2.2⟩
 case rest=>
 obtain⟨B13,x13,rfl,rv13,n13,b13⟩:=hcut
 have U:=row_below HV615.out b13
 have N:=HN615.out.below b13
 have lB13:=(rv13.lt B13 rfl).2
 have lB6z:=(U.lt B6 rfl).2
 obtain⟨d0,d1,d2,d3,d4,d5,d6,d7,d8⟩:=cells9 U
 obtain⟨c0,c1,c2,c3,c4,c5,c6,c7,c8⟩:=cells9 rv13
 have HBf:Hid (Below w.heap.size w wc):=HB15.out.trans (b13.mono HB15.out.size)
 have HUN:Hid (Ans wc w1.heap.size x6.val o):=N
 have HNN:Hid (Ans wc w15.heap.size x13.val o):=n13
 clear rv13 n13 b13 U N A0 A1 A2 A3 A4 A5 A6 A7 A8
 go_wp2_with fail
 refine(eqMach_ans (v:=x13.val) (v':=x6.val) HSA.out HNN.out HUN.out).mono ?_
 rintro e wf⟨rfl,qf⟩
 go_wp2
 go_ret
 exact⟨rfl,HBf.out.trans (qf.mono HBf.out.size)⟩
end Go.Proofs.YtpbceodheeepoaaGreat
