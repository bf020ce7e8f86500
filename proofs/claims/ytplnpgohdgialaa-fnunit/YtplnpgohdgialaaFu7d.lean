import Derived.Test.YtplnpgohdgialaaOfFu7c
set_option maxHeartbeats 32000000
set_option maxRecDepth 20000
namespace Go.Proofs.Ytplnpgohdgialaa
open Go.RowKit Go.Deep
def QR(w:World)(p:Nat)(ao:Option Addr)(n cap:Nat)(e:Ending)(w':World):Prop:=
 ∃(g cg:Nat)(ps:List BD),e=.returned (.slice (some ⟨g,0,none⟩) ps.length cg)/\1<=ps.length/\ps.length<=100/\QX w p ao n cap g cg ps w'
def slenOf:Value->Nat
 |.slice _ k _=>k
 |_=>0
def SB(u:World)(q:Nat)(s:SV):Prop:=u.heap[q]?=some (.cells (stL s).toArray 33)
theorem SB.cells{u:World}{q:Nat}{s:SV}(h:SB u q s):u.cell? ⟨q,0,none⟩=some (.int .i64 s.k)/\u.cell? ⟨q,1,none⟩=some (.int .i64 s.op)/\u.cell? ⟨q,2,none⟩=some (.int .i64 s.d)/\u.cell? ⟨q,3,none⟩=some (.int .i64 s.a)/\u.cell? ⟨q,4,none⟩=some (.int .i64 s.b)/\u.cell? ⟨q,5,none⟩=some (.int .i64 s.imm)/\u.cell? ⟨q,6,none⟩=some (.int .i64 s.h)/\u.cell? ⟨q,7,none⟩=some (.int .i64 s.cond)/\u.cell? ⟨q,8,none⟩=some (.int .i64 s.thn)/\u.cell? ⟨q,9,none⟩=some (.int .i64 s.els)/\u.cell? ⟨q,10,none⟩=some (.int .i64 s.proc)/\(∀i,u.frozen? ⟨q,i,none⟩=false)/\q<u.heap.size:=
 ⟨(hq_cell h 0).trans rfl,(hq_cell h 1).trans rfl,(hq_cell h 2).trans rfl,(hq_cell h 3).trans rfl,(hq_cell h 4).trans rfl,(hq_cell h 5).trans rfl,(hq_cell h 6).trans rfl,(hq_cell h 7).trans rfl,(hq_cell h 8).trans rfl,(hq_cell h 9).trans rfl,(hq_cell h 10).trans rfl,hq_free h,hq_lt h⟩
def set11(u:World)(q:Nat)(s:SV):World:=((((((((((u.setCell ⟨q,0,none⟩ (.int .i64 s.k)).setCell ⟨q,1,none⟩ (.int .i64 s.op)).setCell ⟨q,2,none⟩ (.int .i64 s.d)).setCell ⟨q,3,none⟩ (.int .i64 s.a)).setCell ⟨q,4,none⟩ (.int .i64 s.b)).setCell ⟨q,5,none⟩ (.int .i64 s.imm)).setCell ⟨q,6,none⟩ (.int .i64 s.h)).setCell ⟨q,7,none⟩ (.int .i64 s.cond)).setCell ⟨q,8,none⟩ (.int .i64 s.thn)).setCell ⟨q,9,none⟩ (.int .i64 s.els)).setCell ⟨q,10,none⟩ (.int .i64 s.proc)
structure SX(w:World)(p:Nat)(ao:Option Addr)(n cap:Nat)(pg pc:Nat)(ps:List BD)(bg bc:Nat)(xs:List SV)(q:Nat)(s:SV)(u:World):Prop where
 Q:QX w p ao n cap pg pc ps u
 B:u.ownsRow w.heap.size 33 11 (.slice (some ⟨bg,0,none⟩) xs.length bc) xs.length (cs xs)
 P:SB u q s
 n1:∀b∈ps,b.g≠bg
 n2:∀b∈ps,b.g≠q
 n3:bg≠q
 wq:w.heap.size<=q
section
variable{w:World}{p:Nat}{ao:Option Addr}{n cap pg pc:Nat}{ps:List BD}{bg bc:Nat}{xs:List SV}{q:Nat}{s:SV}{u u':World}
theorem SX.fw(h:SX w p ao n cap pg pc ps bg bc xs q s u)(f:Fw p u u')(k:Cur u' p ao n cap):SX w p ao n cap pg pc ps bg bc xs q s u':=⟨h.Q.fw f k,row_fw h.B f h.Q.lp,hq_fw h.P f (by have:=h.Q.lp;have:=h.wq;omega),h.n1,h.n2,h.n3,h.wq⟩
theorem SX.below(h:SX w p ao n cap pg pc ps bg bc xs q s u)(f:Below u.heap.size u u'):SX w p ao n cap pg pc ps bg bc xs q s u':=h.fw (.of_below f) (h.Q.K.below f)
theorem SX.put1(h:SX w p ao n cap pg pc ps bg bc xs q s u){s':SV}(j:Nat)(v:Value)(hs:(stL s).toArray.setIfInBounds j v=(stL s').toArray):SX w p ao n cap pg pc ps bg bc xs q s' (u.setCell ⟨q,j,none⟩ v):=
 ⟨h.Q.put h.P h.wq h.n2 _ _,row_put h.B (fun e=>h.n3 (Option.some.inj e)) _ _,by unfold SB;rw[<-hs];exact hq_set h.P j v,h.n1,h.n2,h.n3,h.wq⟩
theorem SX.put11(h:SX w p ao n cap pg pc ps bg bc xs q s u)(s':SV):SX w p ao n cap pg pc ps bg bc xs q s' (set11 u q s'):=by
 have go:∀{v:World}{r:SV}(j:Nat)(x:Value),(∃vs,(stL r).toArray.setIfInBounds j x=(stL vs).toArray)->SX w p ao n cap pg pc ps bg bc xs q r v->∃vs,SX w p ao n cap pg pc ps bg bc xs q vs (v.setCell ⟨q,j,none⟩ x)/\(stL r).toArray.setIfInBounds j x=(stL vs).toArray:=fun j x⟨vs,hv⟩hh=>⟨vs,hh.put1 j x hv,hv⟩
 exact((((((((((h.put1 (s':={s with k:=s'.k}) 0 _ rfl).put1 (s':={s with k:=s'.k,op:=s'.op}) 1 _ rfl).put1 (s':={s with k:=s'.k,op:=s'.op,d:=s'.d}) 2 _ rfl).put1 (s':={s with k:=s'.k,op:=s'.op,d:=s'.d,a:=s'.a}) 3 _ rfl).put1 (s':={s with k:=s'.k,op:=s'.op,d:=s'.d,a:=s'.a,b:=s'.b}) 4 _ rfl).put1 (s':={s with k:=s'.k,op:=s'.op,d:=s'.d,a:=s'.a,b:=s'.b,imm:=s'.imm}) 5 _ rfl).put1 (s':={s with k:=s'.k,op:=s'.op,d:=s'.d,a:=s'.a,b:=s'.b,imm:=s'.imm,h:=s'.h}) 6 _ rfl).put1 (s':={s with k:=s'.k,op:=s'.op,d:=s'.d,a:=s'.a,b:=s'.b,imm:=s'.imm,h:=s'.h,cond:=s'.cond}) 7 _ rfl).put1 (s':={s with k:=s'.k,op:=s'.op,d:=s'.d,a:=s'.a,b:=s'.b,imm:=s'.imm,h:=s'.h,cond:=s'.cond,thn:=s'.thn}) 8 _ rfl).put1 (s':={s' with proc:=s.proc}) 9 _ rfl).put1 (s':=s') 10 _ rfl
end
theorem l5SpoilProcs_any(w:World)(p:Nat)(ao:Option Addr)(n cap:Nat)(pg pc:Nat)(ps:List BD)(u:World)(hl1:1<=ps.length)(hl2:ps.length<=3)(hsm:∀b∈ps,b.xs.length<=9330)(hq:QX w p ao n cap pg pc ps u):
 Calls Try.prog 16 #[.pointer (some ⟨p,0,none⟩),.slice (some ⟨pg,0,none⟩) ps.length pc] u (QR w p ao n cap):=by
 have Q0:Hid (QX w p ao n cap pg pc ps u):=hq
 clear hq
 go_enter Try.func16,Try.ntmps16
 go_wp2_with fail
 refine(l1Below_any p ao n cap (ps.length:Int) _ (by omega) Q0.out.K).mono ?_
 rintro e y1⟨x,rfl,x0,x1,f,k⟩
 have Q1:Hid (QX w p ao n cap pg pc ps y1):=Q0.out.fw f k
 obtain⟨pi,hpi⟩:∃pi:Nat,x=(pi:Int):=⟨x.toNat,by omega⟩
 subst hpi
 have hpl:pi<ps.length:=by omega
 clear f k Q0 x0 x1
 go_wp2_with fail
 refine(l1Below_any p ao n cap 8 _ (by omega) Q1.out.K).mono ?_
 rintro e y2⟨kk,rfl,kk0,kk8,f,k⟩
 have Q2:Hid (QX w p ao n cap pg pc ps y2):=Q1.out.fw f k
 clear f k Q1
 obtain⟨bd,hbd⟩:∃bd:BD,ps[pi]?=some bd:=⟨_,List.getElem?_eq_getElem hpl⟩
 have hmem:bd∈ps:=List.mem_of_getElem? hbd
 have hpl':(pi:Int)<(ps.length:Int):=by omega
 obtain⟨y3,hy3,b3,o3⟩:∃y,y2.alloc (.cells #[] 33)=y/\Below y2.heap.size y2 y/\y.ownsRow y2.heap.size 33 11 (.slice (some ⟨y2.heap.size,0,none⟩) ([]:List SV).length 0) ([]:List SV).length (cs []):=⟨_,rfl,(Below.refl _ _).alloc (Nat.le_refl _) _,World.ownsRow_lit y2 #[] 0 (Nat.le_refl _) (by unfold maxLen;omega) rfl⟩
 have Q3:=Q2.out.below b3
 have c3:y3.cell? ⟨pg,pi,none⟩=some (.slice (some ⟨bd.g,0,none⟩) bd.xs.length bd.c):=by
  rw[Q3.row.cellAt pi (by omega),List.getElem?_map,hbd]
  rfl
 have l3:=(Q3.row.lt pg rfl).2
 have hbl:bd.xs.length<=9330:=hsm bd hmem
 obtain⟨g4,c4,y4,hrun,o4,hg,hg'⟩:=app_st y3 w.heap.size y2.heap.size 0 [] (row_down o3 Q2.out.F.size) _ bd.g bd.c bd.xs (Q3.pw bd hmem).1 (by simp;omega) Q3.F.size
 have hnn:∀b∈ps,b.g≠y2.heap.size:=fun b hb=>by have:=Q2.out.pw.lt b hb;omega
 have Q4:=Q3.grw (row_down o3 Q2.out.F.size) hg hnn
 have hz3:y3.heap.size=y2.heap.size+1:=by rw[<-hy3];simp
 have n4:∀b∈ps,b.g≠g4:=fun b hb=>by have:=hnn b hb;have:=Q2.out.pw.lt b hb;omega
 rw[List.nil_append]at hrun o4
 have B4:Hid (y4.ownsRow w.heap.size 33 11 (.slice (some ⟨g4,0,none⟩) bd.xs.length c4) bd.xs.length (cs bd.xs)):=o4
 have Q4:Hid (QX w p ao n cap pg pc ps y4):=Q4
 have N4:Hid (∀b∈ps,b.g≠g4):=n4
 clear b3 o3 Q3 o4 hg hg' hnn hz3 n4 Q2
 go_upto_region 4 with(first|(at_builtin;refine wpList_app rfl _ _ 28 rfl rfl rfl hrun ?_))
 clear hrun hy3 c3 l3
 have HBD:Hid (ps[pi]?=some bd/\bd∈ps):=⟨hbd,hmem⟩
 clear hbd hmem
 go_wp2_with fail
 refine(l1Below_any p ao n cap ((bd.xs.length:Int)+1) _ (by omega) Q4.out.K).mono ?_
 rintro e y5⟨x,rfl,x0,x1,f,k⟩
 have Q5:=Q4.out.fw f k
 have B5:=row_fw B4.out f Q4.out.lp
 obtain⟨at',hat⟩:∃at':Nat,x=(at':Int):=⟨x.toNat,by omega⟩
 subst hat
 have hal:at'<=bd.xs.length:=by omega
 obtain⟨y6,hy6,b6,s6⟩:∃y,y5.alloc (.cells #[.int .i64 4,.int .i64 0,.int .i64 0,.int .i64 0,.int .i64 0,.int .i64 0,.int .i64 0,.int .i64 0,.int .i64 0,.int .i64 0,.int .i64 (pi:Int)] 33)=y/\Below y5.heap.size y5 y/\SB y y5.heap.size ⟨4,0,0,0,0,0,0,0,0,0,(pi:Int)⟩:=⟨_,rfl,(Below.refl _ _).alloc (Nat.le_refl _) _,hq_new _ _⟩
 have X6:Hid (SX w p ao n cap pg pc ps g4 c4 bd.xs y5.heap.size ⟨4,0,0,0,0,0,0,0,0,0,(pi:Int)⟩ y6):=⟨Q5.below b6,row_belowD B5 b6,s6,N4.out,fun b hb=>by have:=Q5.pw.lt b hb;omega,by have:=(B5.lt g4 rfl).2;omega,Q5.F.size⟩
 obtain⟨nq,hnq⟩:∃y,y5.heap.size=y:=⟨_,rfl⟩
 rw[hnq]at X6
 clear f k Q5 B5 b6 s6 Q4 B4 x0 x1
 go_upto_region 6 with fail
 try rw[hy6]
 try rw[hnq]
 clear hy6 hnq
 go_upto_block 0 with fail
 go_cut [1,7,9](fun s1 s7 s9 wx=>s1=.slice (some ⟨pg,0,none⟩) ps.length pc/\s7=.slice (some ⟨g4,0,none⟩) bd.xs.length c4/\s9=.pointer (some ⟨nq,0,none⟩)/\∃s,SX w p ao n cap pg pc ps g4 c4 bd.xs nq s wx)
 case first=>
  by_cases k0:kk=0
  ·subst k0
   obtain⟨c0,c1,c2,c3,c4',c5,c6,c7,c8,c9,c10,cf,cl⟩:=X6.out.P.cells
   go_wp2_with fail
   go_meet
   exact⟨rfl,rfl,rfl,_,X6.out.put1 (s':=⟨4,0,0,0,0,0,0,0,0,0,(ps.length:Int)⟩) 10 _ rfl⟩
  by_cases k1:kk=1
  ·subst k1
   go_wp2_with fail
   refine(l1Below_any p ao n cap 40 _ (by omega) X6.out.Q.K).mono ?_
   rintro e y7⟨x,rfl,x0,x1,f,k⟩
   have X7:Hid (SX w p ao n cap pg pc ps g4 c4 bd.xs nq ⟨4,0,0,0,0,0,0,0,0,0,(pi:Int)⟩ y7):=X6.out.fw f k
   clear f k X6
   obtain⟨c0,c1,c2,c3,c4',c5,c6,c7,c8,c9,c10,cf,cl⟩:=X7.out.P.cells
   go_wp2_with fail
   go_meet
   exact⟨rfl,rfl,rfl,_,X7.out.put11 ⟨2,0,0,0,0,0,0,1,1+x,0,0⟩⟩
  by_cases k2:kk=2
  ·subst k2
   go_wp2_with fail
   refine(l1Below_any p ao n cap 2 _ (by omega) X6.out.Q.K).mono ?_
   rintro e y7⟨x,rfl,x0,x1,f,k⟩
   have X7:Hid (SX w p ao n cap pg pc ps g4 c4 bd.xs nq ⟨4,0,0,0,0,0,0,0,0,0,(pi:Int)⟩ y7):=X6.out.fw f k
   clear f k X6
   obtain⟨c0,c1,c2,c3,c4',c5,c6,c7,c8,c9,c10,cf,cl⟩:=X7.out.P.cells
   go_wp2_with fail
   go_meet
   exact⟨rfl,rfl,rfl,_,X7.out.put11 ⟨3,0,0,0,0,0,0,5*x,0,0,0⟩⟩
  by_cases k3:kk=3
  ·subst k3
   obtain⟨c0,c1,c2,c3,c4',c5,c6,c7,c8,c9,c10,cf,cl⟩:=X6.out.P.cells
   go_wp2_with fail
   go_meet
   exact⟨rfl,rfl,rfl,_,X6.out.put11 ⟨1,34,0,0,0,0,0,0,0,0,0⟩⟩
  by_cases k4:kk=4
  ·subst k4
   go_wp2_with fail
   refine(l1Below_any p ao n cap 2 _ (by omega) X6.out.Q.K).mono ?_
   rintro e y7⟨x,rfl,x0,x1,f,k⟩
   have X7:Hid (SX w p ao n cap pg pc ps g4 c4 bd.xs nq ⟨4,0,0,0,0,0,0,0,0,0,(pi:Int)⟩ y7):=X6.out.fw f k
   clear f k X6
   obtain⟨c0,c1,c2,c3,c4',c5,c6,c7,c8,c9,c10,cf,cl⟩:=X7.out.P.cells
   obtain⟨y8,hy8,x8⟩:∃y,set11 y7 nq ⟨2,0,0,0,0,0,0,2,15+x,0,0⟩=y/\SX w p ao n cap pg pc ps g4 c4 bd.xs nq ⟨2,0,0,0,0,0,0,2,15+x,0,0⟩ y:=⟨_,rfl,X7.out.put11 ⟨2,0,0,0,0,0,0,2,15+x,0,0⟩⟩
   unfold set11 at hy8
   dsimp only at hy8
   go_upto_region 17 with fail
   try rw[hy8]
   obtain⟨sp,hsp⟩:∃s:SV,(⟨2,0,0,0,0,0,0,2,15+x,0,0⟩:SV)=s:=⟨_,rfl⟩
   have hthn:sp.thn=15+x:=by rw[<-hsp]
   rw[hsp]at x8
   have X8:Hid (SX w p ao n cap pg pc ps g4 c4 bd.xs nq sp y8):=x8
   clear hy8 x8 X7 c0 c1 c2 c3 c4' c5 c6 c7 c8 c9 c10 cf cl hsp
   obtain⟨dn,hdn⟩:∃dn:Nat,15+x=(dn:Int):=⟨(15+x).toNat,by omega⟩
   have hd17:dn<=17:=by omega
   rw[hdn]at hthn
   have HTH:Hid (sp.thn=(dn:Int)):=hthn
   clear hthn hdn
   obtain⟨y9,hy9,b9,o9⟩:∃y,y8.alloc (.cells #[] 33)=y/\Below y8.heap.size y8 y/\y.ownsRow y8.heap.size 33 11 (.slice (some ⟨y8.heap.size,0,none⟩) ([]:List SV).length 0) ([]:List SV).length (cs []):=⟨_,rfl,(Below.refl _ _).alloc (Nat.le_refl _) _,World.ownsRow_lit y8 #[] 0 (Nat.le_refl _) (by unfold maxLen;omega) rfl⟩
   have X9:Hid (SX w p ao n cap pg pc ps g4 c4 bd.xs nq sp y9):=X8.out.below b9
   have R9:Hid (y9.ownsRow w.heap.size 33 11 (.slice (some ⟨y8.heap.size,0,none⟩) ([]:List SV).length 0) ([]:List SV).length (cs [])):=row_down o9 X8.out.Q.F.size
   have N9:Hid ((∀b∈ps,b.g≠y8.heap.size)/\g4≠y8.heap.size/\nq≠y8.heap.size):=⟨fun b hb=>by have:=X8.out.Q.pw.lt b hb;omega,by have:=(X8.out.B.lt g4 rfl).2;omega,by have:=hq_lt X8.out.P;omega⟩
   obtain⟨nb,hnb⟩:∃y,y8.heap.size=y:=⟨_,rfl⟩
   rw[hnb]at R9 N9
   obtain⟨c0,c1,c2,c3,c4',c5,c6,c7,c8,c9,c10,cf,cl⟩:=X9.out.P.cells
   rw[HTH.out]at c8
   go_wp2_with fail
   try rw[hnb]
   clear c0 c1 c2 c3 c4' c5 c6 c7 c8 c9 c10 cf cl hy9 b9 o9 hnb X8
   go_loopw [10,11](fun bv iv wr=>∃(g gc:Nat)(zs:List SV)(dn:Nat),bv=.slice (some ⟨g,0,none⟩) zs.length gc/\iv=.int .i64 (dn:Int)/\zs.length+dn<=17/\Hid ((∀b∈ps,b.g≠g)/\g4≠g/\nq≠g)/\SX w p ao n cap pg pc ps g4 c4 bd.xs nq sp wr/\wr.ownsRow w.heap.size 33 11 (.slice (some ⟨g,0,none⟩) zs.length gc) zs.length (cs zs))(fun _ iv _=>(intOf iv).toNat)
   case atStart=>exact⟨nb,0,[],dn,rfl,rfl,by simpa using hd17,N9,X9.out,R9.out⟩
   case round=>
    clear X9 R9 N9
    obtain⟨g,gc,zs,dn,rfl,rfl,hzl,HN,q8,r8⟩:=hrel
    have X8:Hid (SX w p ao n cap pg pc ps g4 c4 bd.xs nq sp wr):=q8
    have R8:Hid (wr.ownsRow w.heap.size 33 11 (.slice (some ⟨g,0,none⟩) zs.length gc) zs.length (cs zs)):=r8
    clear q8 r8
    by_cases hd0:0<dn
    ·have hd0':(0:Int)<(dn:Int):=by omega
     obtain⟨de,hde⟩:∃de:Nat,dn=de+1:=⟨dn-1,by omega⟩
     have hsub:(dn:Int)-1=(de:Int):=by omega
     have HDE:Hid (dn=de+1):=hde
     clear hde
     obtain⟨g2,c2,v2,ys,hrun,hyl,q10,r10,n10,hrw,hbl⟩:=app_one wr g gc zs ⟨3,0,0,0,0,0,0,3,(de:Int),0,0⟩ X8.out.Q R8.out HN.out.1 (by omega)
     unfold stL at hrun
     have hB:=hrw g4 c4 bd.xs HN.out.2.1 X8.out.B
     have hP:=hbl nq _ HN.out.2.2 X8.out.P
     have RES:Hid (ys.length=zs.length+1/\((∀b∈ps,b.g≠g2)/\g4≠g2/\nq≠g2)/\SX w p ao n cap pg pc ps g4 c4 bd.xs nq sp v2/\v2.ownsRow w.heap.size 33 11 (.slice (some ⟨g2,0,none⟩) ys.length c2) ys.length (cs ys)):=⟨hyl,⟨n10,hB.1,hP.1⟩,⟨q10,hB.2,hP.2,X8.out.n1,X8.out.n2,X8.out.n3,X8.out.wq⟩,r10⟩
     clear hyl q10 r10 n10 hrw hbl hB hP X8 R8
     go_wp2_with(first|(at_builtin;refine wpList_app rfl _ _ 28 rfl rfl rfl hrun ?_))
     clear hrun
     go_roundw
     case rel=>exact⟨g2,c2,ys,de,rfl,rfl,by have:=RES.out.1;have:=HDE.out;omega,RES.out.2.1,RES.out.2.2.1,RES.out.2.2.2⟩
     case measure=>have:=HDE.out;simp[intOf];omega
    have hd0':¬(0:Int)<(dn:Int):=by omega
    clear hsm
    go_upto_region 22 with fail
    go_cut [7](fun s7 wx=>∃(g' c':Nat)(ys:List SV),s7=.slice (some ⟨g',0,none⟩) ys.length c'/\ys.length<=10000/\g≠g'/\(∀b∈ps,b.g≠g')/\wx.ownsRow w.heap.size 33 11 (.slice (some ⟨g',0,none⟩) ys.length c') ys.length (cs ys)/\wx.ownsRow w.heap.size 33 11 (.slice (some ⟨g,0,none⟩) zs.length gc) zs.length (cs zs)/\QX w p ao n cap pg pc ps wx)
    case first=>
     have hcc:bd.xs.length<=c4:=row_cap X8.out.B
     have v0:∀w',Below wr.heap.size wr w'->w'.cell? ⟨nq,0,none⟩=some (.int .i64 sp.k):=fun w' h=>(X8.out.below h).P.cells.1
     have v1:∀w',Below wr.heap.size wr w'->w'.cell? ⟨nq,1,none⟩=some (.int .i64 sp.op):=fun w' h=>(X8.out.below h).P.cells.2.1
     have v2:∀w',Below wr.heap.size wr w'->w'.cell? ⟨nq,2,none⟩=some (.int .i64 sp.d):=fun w' h=>(X8.out.below h).P.cells.2.2.1
     have v3:∀w',Below wr.heap.size wr w'->w'.cell? ⟨nq,3,none⟩=some (.int .i64 sp.a):=fun w' h=>(X8.out.below h).P.cells.2.2.2.1
     have v4:∀w',Below wr.heap.size wr w'->w'.cell? ⟨nq,4,none⟩=some (.int .i64 sp.b):=fun w' h=>(X8.out.below h).P.cells.2.2.2.2.1
     have v5:∀w',Below wr.heap.size wr w'->w'.cell? ⟨nq,5,none⟩=some (.int .i64 sp.imm):=fun w' h=>(X8.out.below h).P.cells.2.2.2.2.2.1
     have v6:∀w',Below wr.heap.size wr w'->w'.cell? ⟨nq,6,none⟩=some (.int .i64 sp.h):=fun w' h=>(X8.out.below h).P.cells.2.2.2.2.2.2.1
     have v7:∀w',Below wr.heap.size wr w'->w'.cell? ⟨nq,7,none⟩=some (.int .i64 sp.cond):=fun w' h=>(X8.out.below h).P.cells.2.2.2.2.2.2.2.1
     have v8:∀w',Below wr.heap.size wr w'->w'.cell? ⟨nq,8,none⟩=some (.int .i64 sp.thn):=fun w' h=>(X8.out.below h).P.cells.2.2.2.2.2.2.2.2.1
     have v9:∀w',Below wr.heap.size wr w'->w'.cell? ⟨nq,9,none⟩=some (.int .i64 sp.els):=fun w' h=>(X8.out.below h).P.cells.2.2.2.2.2.2.2.2.2.1
     have v10:∀w',Below wr.heap.size wr w'->w'.cell? ⟨nq,10,none⟩=some (.int .i64 sp.proc):=fun w' h=>(X8.out.below h).P.cells.2.2.2.2.2.2.2.2.2.2.1
     have ha1:(at':Int)<=(c4:Int):=by omega
     have HTK:Hid (∀(t:World),Below wr.heap.size wr t->∀j u,(cs (bd.xs.take at'))[j]?=some u->t.cell? ((⟨g4,0,none⟩:Addr).add j)=some u):=fun t ht j u hj=>by
      have r:=(X8.out.below ht).B
      have hj2:j<at'*11:=by
       have:=(List.getElem?_eq_some_iff.1 hj).1
       rw[cs_len,List.length_take]at this
       omega
      rw[Addr.add_lit,Nat.zero_add,r.cellAt j (by omega)]
      rw[cs_take,List.getElem?_take,if_pos hj2]at hj
      exact hj
     refine wp_region_held_drew (S:=fun w'=>Below wr.heap.size wr w') (by kernel_rfl) (Below.refl _ _).drew (fun _=>?_)
     refine wpAnyH_tk 1 ?k1v rfl ?k1y ?k1r
     case k1y=>(intro w hSw;(try dsimp only at hSw);go_simp;try with_reducible rfl)
     try simp only[Act.put,List.getElem_toArray,List.getElem_cons_zero,List.getElem_cons_succ,List.setIfInBounds_toArray,List.set_cons_zero,List.set_cons_succ]
     refine wpAnyH_tk 2 ?k2v rfl ?k2y ?k2r
     case k2y=>(intro w hSw;(try dsimp only at hSw);go_simp;try with_reducible rfl)
     try simp only[Act.put,List.getElem_toArray,List.getElem_cons_zero,List.getElem_cons_succ,List.setIfInBounds_toArray,List.set_cons_zero,List.set_cons_succ]
     refine wpAnyH_tk 3 (.slice (some ⟨g4,0,none⟩) at' c4) rfl ?kcy ?kcr
     case kcy=>(intro w hSw;(try dsimp only at hSw);go_simp;first|done|(rw[if_pos (by omega)];simp)|(split<;>simp_all))
     try simp only[Act.put,List.getElem_toArray,List.getElem_cons_zero,List.getElem_cons_succ,List.setIfInBounds_toArray,List.set_cons_zero,List.set_cons_succ]
     refine wpAnyH_tk 5 ?k3v rfl ?k3y ?k3r
     case k3y=>(intro w hSw;(try dsimp only at hSw);go_simp;try with_reducible rfl)
     try simp only[Act.put,List.getElem_toArray,List.getElem_cons_zero,List.getElem_cons_succ,List.setIfInBounds_toArray,List.set_cons_zero,List.set_cons_succ]
     have hbd:Below wr.heap.size wr wr.drew:=(Below.refl _ _).drew
     generalize wr.drew=t0 at hbd⊢
     have hyw:w.heap.size<=wr.heap.size:=X8.out.Q.F.size
     have TK:(bd.xs.take at').length=at':=by rw[List.length_take];omega
     have HTKL:Hid ((bd.xs.take at').length=at'):=TK
     clear TK
     refine wpAnyH_ready (rs:=[0,6]) (by kernel_rfl) (by simp) ?_
     refine AllReadyH.cons rfl (fun KK hK=>?_) (AllReadyH.cons rfl (fun KK hK=>?_) AllReadyH.nil)
     ·skip
      go_simp
      obtain⟨t1,ht1,bn,r0⟩:∃y,t0.alloc (.cells #[] 33)=y/\Below t0.heap.size t0 y/\y.ownsRow t0.heap.size 33 11 (.slice (some ⟨t0.heap.size,0,none⟩) ([]:List SV).length 0) ([]:List SV).length (cs []):=⟨_,rfl,(Below.refl _ _).alloc (Nat.le_refl _) _,World.ownsRow_lit t0 #[] 0 (Nat.le_refl _) (by unfold maxLen;omega) rfl⟩
      rw[ht1]
      have hbd':Below wr.heap.size wr t1:=hbd.trans (bn.mono hbd.size)
      have rr:t1.ownsRow wr.heap.size 33 11 (.slice (some ⟨t0.heap.size,0,none⟩) ([]:List SV).length 0) ([]:List SV).length (cs []):=row_down r0 hbd.size
      obtain⟨rb,hrb⟩:∃y,t0.heap.size=y:=⟨_,rfl⟩
      rw[hrb]at rr⊢
      refine hK.out _ _ hbd' (fun _=>?_)
      clear hK KK ht1 r0
      try simp only[Act.put,List.getElem_toArray,List.getElem_cons_zero,List.getElem_cons_succ,List.setIfInBounds_toArray,List.set_cons_zero,List.set_cons_succ]
      clear hbd bn hrb
      have hbd:=hbd'
      clear hbd'
      refine wpAnyH_ready (rs:=[4,6]) (by kernel_rfl) (by simp) ?_
      obtain⟨r1,rc1,t2,hrun,o1,hg,hg'⟩:=app_at t1 wr.heap.size rb 0 [] rr ⟨g4,0,none⟩ at' c4 (bd.xs.take at') HTKL.out.symm (HTK.out t1 hbd) (by rw[HTKL.out];simp;omega) hbd.size
      obtain⟨z1,hz1⟩:∃z,[]++bd.xs.take at'=z:=⟨_,rfl⟩
      rw[hz1]at hrun o1
      have hzl1:z1.length=at':=by rw[<-hz1,List.nil_append];exact HTKL.out
      have HZ1:Hid (z1.length=at'):=hzl1
      have hbd':Below wr.heap.size wr t2:=hbd.trans ((Below.refl _ _).grown hg hbd.size (by intro q hq;have e:=Option.some.inj hq;have:=own_ge rr (q:=rb) rfl;omega))
      refine readyH_app2 (.tmp 78) (.tmp 81) rfl (by kernel_rfl) rfl rfl rfl hrun hbd' (fun _=>?_) (AllReadyH.cons rfl (fun KK hK=>?_) AllReadyH.nil)
      ·skip
       try simp only[Act.put,List.getElem_toArray,List.getElem_cons_zero,List.getElem_cons_succ,List.setIfInBounds_toArray,List.set_cons_zero,List.set_cons_succ]
       clear hrun hz1 hzl1 hg hg' rr hbd
       have hbd:=hbd'
       have rr:=o1
       clear hbd' o1
       refine wpAnyH_ready (rs:=[6]) (by kernel_rfl) (by simp) ?_
       refine AllReadyH.cons rfl (fun KK hK=>?_) AllReadyH.nil
       go_simp
       obtain⟨t3,ht3,bn,p0⟩:∃y,t2.alloc (.cells #[.int .i64 sp.k,.int .i64 sp.op,.int .i64 sp.d,.int .i64 sp.a,.int .i64 sp.b,.int .i64 sp.imm,.int .i64 sp.h,.int .i64 sp.cond,.int .i64 sp.thn,.int .i64 sp.els,.int .i64 sp.proc] 33)=y/\Below t2.heap.size t2 y/\y.ownsRow t2.heap.size 33 11 (.slice (some ⟨t2.heap.size,0,none⟩) [sp].length 1) [sp].length (cs [sp]):=⟨_,rfl,(Below.refl _ _).alloc (Nat.le_refl _) _,by rw[cs_one];exact World.ownsRow_lit t2 (stL sp).toArray 1 (Nat.le_refl _) (by unfold maxLen;omega) rfl⟩
       rw[ht3]
       have hbd':Below wr.heap.size wr t3:=hbd.trans (bn.mono hbd.size)
       obtain⟨pb,hpb⟩:∃y,t2.heap.size=y:=⟨_,rfl⟩
       have pp:t3.ownsRow wr.heap.size 33 11 (.slice (some ⟨pb,0,none⟩) [sp].length 1) [sp].length (cs [sp]):=by rw[<-hpb];exact row_down p0 hbd.size
       rw[hpb]
       refine hK.out _ _ hbd' (fun _=>?_)
       clear hK KK ht3 p0
       try simp only[Act.put,List.getElem_toArray,List.getElem_cons_zero,List.getElem_cons_succ,List.setIfInBounds_toArray,List.set_cons_zero,List.set_cons_succ]
       have rr':=row_belowD rr bn
       have hpr:pb≠r1:=by have:=(rr.lt r1 rfl).2;omega
       clear rr
       have rr:=rr'
       clear rr'
       clear hbd bn hpb
       have hbd:=hbd'
       clear hbd'
       refine wpAnyH_ready (rs:=[7]) (by kernel_rfl) (by simp) ?_
       have hz1l:=HZ1.out
       obtain⟨r2,rc2,t4,hrun,o2,hg,hg'⟩:=app_st t3 wr.heap.size r1 rc1 z1 rr _ pb 1 [sp] pp (by simp;omega) hbd.size
       obtain⟨z2,hz2⟩:∃z,z1++[sp]=z:=⟨_,rfl⟩
       rw[hz2]at hrun o2
       have hbd':Below wr.heap.size wr t4:=hbd.trans ((Below.refl _ _).grown hg hbd.size (by intro q hq;have e:=Option.some.inj hq;have:=own_ge rr (q:=r1) rfl;omega))
       refine readyH_append (.tmp 82) (.tmp 84) rfl (by kernel_rfl) rfl rfl rfl hrun hbd' (fun _=>?_)
       try simp only[Act.put,List.getElem_toArray,List.getElem_cons_zero,List.getElem_cons_succ,List.setIfInBounds_toArray,List.set_cons_zero,List.set_cons_succ]
       refine wpAnyH_tk 8 ?k4v rfl ?k4y ?k4r
       case k4y=>(intro w hSw;(try dsimp only at hSw);go_simp;try with_reducible rfl)
       try simp only[Act.put,List.getElem_toArray,List.getElem_cons_zero,List.getElem_cons_succ,List.setIfInBounds_toArray,List.set_cons_zero,List.set_cons_succ]
       refine wpAnyH_done (by kernel_rfl) ?_ _
       have hz2l:z2.length=at'+1:=by rw[<-hz2];simp;omega
       have hr2:wr.heap.size<=r2:=own_ge o2 (q:=r2) rfl
       have RES:Hid (z2.length<=10000/\g≠r2/\(∀b∈ps,b.g≠r2)/\t4.ownsRow w.heap.size 33 11 (.slice (some ⟨r2,0,none⟩) z2.length rc2) z2.length (cs z2)/\t4.ownsRow w.heap.size 33 11 (.slice (some ⟨g,0,none⟩) zs.length gc) zs.length (cs zs)/\QX w p ao n cap pg pc ps t4):=⟨by omega,by have:=(R8.out.lt g rfl).2;omega,fun b hb=>by have:=X8.out.Q.pw.lt b hb;omega,row_down o2 hyw,row_belowD R8.out hbd',X8.out.Q.below hbd'⟩
       clear hrun hz2 hz2l hz1l hg hg' o2 hbd hbd' rr pp v0 v1 v2 v3 v4 v5 v6 v7 v8 v9 v10
       go_wp2_with fail
       go_meet
       exact⟨r2,rc2,z2,rfl,RES.out.1,RES.out.2.1,RES.out.2.2.1,RES.out.2.2.2.1,RES.out.2.2.2.2.1,RES.out.2.2.2.2.2⟩
      ·skip
       clear hrun hz1 hzl1 hg hg' o1 hbd' HZ1
       go_simp
       obtain⟨t5,ht5,bn,p0⟩:∃y,t1.alloc (.cells #[.int .i64 sp.k,.int .i64 sp.op,.int .i64 sp.d,.int .i64 sp.a,.int .i64 sp.b,.int .i64 sp.imm,.int .i64 sp.h,.int .i64 sp.cond,.int .i64 sp.thn,.int .i64 sp.els,.int .i64 sp.proc] 33)=y/\Below t1.heap.size t1 y/\y.ownsRow t1.heap.size 33 11 (.slice (some ⟨t1.heap.size,0,none⟩) [sp].length 1) [sp].length (cs [sp]):=⟨_,rfl,(Below.refl _ _).alloc (Nat.le_refl _) _,by rw[cs_one];exact World.ownsRow_lit t1 (stL sp).toArray 1 (Nat.le_refl _) (by unfold maxLen;omega) rfl⟩
       rw[ht5]
       have hbd':Below wr.heap.size wr t5:=hbd.trans (bn.mono hbd.size)
       obtain⟨pb,hpb⟩:∃y,t1.heap.size=y:=⟨_,rfl⟩
       have pp:t5.ownsRow wr.heap.size 33 11 (.slice (some ⟨pb,0,none⟩) [sp].length 1) [sp].length (cs [sp]):=by rw[<-hpb];exact row_down p0 hbd.size
       rw[hpb]
       refine hK.out _ _ hbd' (fun _=>?_)
       clear hK KK ht5 p0
       try simp only[Act.put,List.getElem_toArray,List.getElem_cons_zero,List.getElem_cons_succ,List.setIfInBounds_toArray,List.set_cons_zero,List.set_cons_succ]
       have rr':=row_belowD rr bn
       have hpr:pb≠rb:=by have:=(rr.lt rb rfl).2;omega
       clear rr
       have rr:=rr'
       clear rr'
       clear hbd bn hpb
       have hbd:=hbd'
       clear hbd'
       refine wpAnyH_ready (rs:=[4]) (by kernel_rfl) (by simp) ?_
       obtain⟨r1,rc1,t6,hrun,o1,hg,hg'⟩:=app_at t5 wr.heap.size rb 0 [] rr ⟨g4,0,none⟩ at' c4 (bd.xs.take at') HTKL.out.symm (HTK.out t5 hbd) (by rw[HTKL.out];simp;omega) hbd.size
       obtain⟨z1,hz1⟩:∃z,[]++bd.xs.take at'=z:=⟨_,rfl⟩
       rw[hz1]at hrun o1
       have hzl1:z1.length=at':=by rw[<-hz1,List.nil_append];exact HTKL.out
       have HZ1:Hid (z1.length=at'):=hzl1
       have hbd':Below wr.heap.size wr t6:=hbd.trans ((Below.refl _ _).grown hg hbd.size (by intro q hq;have e:=Option.some.inj hq;have:=own_ge rr (q:=rb) rfl;omega))
       refine readyH_append (.tmp 78) (.tmp 81) rfl (by kernel_rfl) rfl rfl rfl hrun hbd' (fun _=>?_)
       try simp only[Act.put,List.getElem_toArray,List.getElem_cons_zero,List.getElem_cons_succ,List.setIfInBounds_toArray,List.set_cons_zero,List.set_cons_succ]
       have pp':=row_grw pp hg (fun q hq e=>hpr ((Option.some.inj hq).trans (Option.some.inj e).symm))
       have hpr':pb≠r1:=by have:=(pp.lt pb rfl).2;omega
       clear pp hpr
       have pp:=pp'
       have hpr:=hpr'
       clear pp' hpr'
       clear hrun hz1 hzl1 hg hg' rr hbd
       have hbd:=hbd'
       have rr:=o1
       clear hbd' o1
       refine wpAnyH_ready (rs:=[7]) (by kernel_rfl) (by simp) ?_
       have hz1l:=HZ1.out
       obtain⟨r2,rc2,t7,hrun,o2,hg,hg'⟩:=app_st t6 wr.heap.size r1 rc1 z1 rr _ pb 1 [sp] pp (by simp;omega) hbd.size
       obtain⟨z2,hz2⟩:∃z,z1++[sp]=z:=⟨_,rfl⟩
       rw[hz2]at hrun o2
       have hbd':Below wr.heap.size wr t7:=hbd.trans ((Below.refl _ _).grown hg hbd.size (by intro q hq;have e:=Option.some.inj hq;have:=own_ge rr (q:=r1) rfl;omega))
       refine readyH_append (.tmp 82) (.tmp 84) rfl (by kernel_rfl) rfl rfl rfl hrun hbd' (fun _=>?_)
       try simp only[Act.put,List.getElem_toArray,List.getElem_cons_zero,List.getElem_cons_succ,List.setIfInBounds_toArray,List.set_cons_zero,List.set_cons_succ]
       refine wpAnyH_tk 8 ?k5v rfl ?k5y ?k5r
       case k5y=>(intro w hSw;(try dsimp only at hSw);go_simp;try with_reducible rfl)
       try simp only[Act.put,List.getElem_toArray,List.getElem_cons_zero,List.getElem_cons_succ,List.setIfInBounds_toArray,List.set_cons_zero,List.set_cons_succ]
       refine wpAnyH_done (by kernel_rfl) ?_ _
       have hz2l:z2.length=at'+1:=by rw[<-hz2];simp;omega
       have hr2:wr.heap.size<=r2:=own_ge o2 (q:=r2) rfl
       have RES:Hid (z2.length<=10000/\g≠r2/\(∀b∈ps,b.g≠r2)/\t7.ownsRow w.heap.size 33 11 (.slice (some ⟨r2,0,none⟩) z2.length rc2) z2.length (cs z2)/\t7.ownsRow w.heap.size 33 11 (.slice (some ⟨g,0,none⟩) zs.length gc) zs.length (cs zs)/\QX w p ao n cap pg pc ps t7):=⟨by omega,by have:=(R8.out.lt g rfl).2;omega,fun b hb=>by have:=X8.out.Q.pw.lt b hb;omega,row_down o2 hyw,row_belowD R8.out hbd',X8.out.Q.below hbd'⟩
       clear hrun hz2 hz2l hz1l hg hg' o2 hbd hbd' rr pp v0 v1 v2 v3 v4 v5 v6 v7 v8 v9 v10
       go_wp2_with fail
       go_meet
       exact⟨r2,rc2,z2,rfl,RES.out.1,RES.out.2.1,RES.out.2.2.1,RES.out.2.2.2.1,RES.out.2.2.2.2.1,RES.out.2.2.2.2.2⟩
     ·skip
      go_simp
      obtain⟨t8,ht8,bn,p0⟩:∃y,t0.alloc (.cells #[.int .i64 sp.k,.int .i64 sp.op,.int .i64 sp.d,.int .i64 sp.a,.int .i64 sp.b,.int .i64 sp.imm,.int .i64 sp.h,.int .i64 sp.cond,.int .i64 sp.thn,.int .i64 sp.els,.int .i64 sp.proc] 33)=y/\Below t0.heap.size t0 y/\y.ownsRow t0.heap.size 33 11 (.slice (some ⟨t0.heap.size,0,none⟩) [sp].length 1) [sp].length (cs [sp]):=⟨_,rfl,(Below.refl _ _).alloc (Nat.le_refl _) _,by rw[cs_one];exact World.ownsRow_lit t0 (stL sp).toArray 1 (Nat.le_refl _) (by unfold maxLen;omega) rfl⟩
      rw[ht8]
      have hbd':Below wr.heap.size wr t8:=hbd.trans (bn.mono hbd.size)
      obtain⟨pb,hpb⟩:∃y,t0.heap.size=y:=⟨_,rfl⟩
      have pp:t8.ownsRow wr.heap.size 33 11 (.slice (some ⟨pb,0,none⟩) [sp].length 1) [sp].length (cs [sp]):=by rw[<-hpb];exact row_down p0 hbd.size
      rw[hpb]
      refine hK.out _ _ hbd' (fun _=>?_)
      clear hK KK ht8 p0
      try simp only[Act.put,List.getElem_toArray,List.getElem_cons_zero,List.getElem_cons_succ,List.setIfInBounds_toArray,List.set_cons_zero,List.set_cons_succ]
      clear hbd bn hpb
      have hbd:=hbd'
      clear hbd'
      refine wpAnyH_ready (rs:=[0]) (by kernel_rfl) (by simp) ?_
      refine AllReadyH.cons rfl (fun KK hK=>?_) AllReadyH.nil
      go_simp
      obtain⟨t9,ht9,bn,r0⟩:∃y,t8.alloc (.cells #[] 33)=y/\Below t8.heap.size t8 y/\y.ownsRow t8.heap.size 33 11 (.slice (some ⟨t8.heap.size,0,none⟩) ([]:List SV).length 0) ([]:List SV).length (cs []):=⟨_,rfl,(Below.refl _ _).alloc (Nat.le_refl _) _,World.ownsRow_lit t8 #[] 0 (Nat.le_refl _) (by unfold maxLen;omega) rfl⟩
      rw[ht9]
      have hbd':Below wr.heap.size wr t9:=hbd.trans (bn.mono hbd.size)
      have rr:t9.ownsRow wr.heap.size 33 11 (.slice (some ⟨t8.heap.size,0,none⟩) ([]:List SV).length 0) ([]:List SV).length (cs []):=row_down r0 hbd.size
      obtain⟨rb,hrb⟩:∃y,t8.heap.size=y:=⟨_,rfl⟩
      rw[hrb]at rr⊢
      refine hK.out _ _ hbd' (fun _=>?_)
      clear hK KK ht9 r0
      try simp only[Act.put,List.getElem_toArray,List.getElem_cons_zero,List.getElem_cons_succ,List.setIfInBounds_toArray,List.set_cons_zero,List.set_cons_succ]
      have pp':=row_belowD pp bn
      have hpr:pb≠rb:=by have:=(pp.lt pb rfl).2;omega
      clear pp
      have pp:=pp'
      clear pp'
      clear hbd bn hrb
      have hbd:=hbd'
      clear hbd'
      refine wpAnyH_ready (rs:=[4]) (by kernel_rfl) (by simp) ?_
      obtain⟨r1,rc1,t10,hrun,o1,hg,hg'⟩:=app_at t9 wr.heap.size rb 0 [] rr ⟨g4,0,none⟩ at' c4 (bd.xs.take at') HTKL.out.symm (HTK.out t9 hbd) (by rw[HTKL.out];simp;omega) hbd.size
      obtain⟨z1,hz1⟩:∃z,[]++bd.xs.take at'=z:=⟨_,rfl⟩
      rw[hz1]at hrun o1
      have hzl1:z1.length=at':=by rw[<-hz1,List.nil_append];exact HTKL.out
      have HZ1:Hid (z1.length=at'):=hzl1
      have hbd':Below wr.heap.size wr t10:=hbd.trans ((Below.refl _ _).grown hg hbd.size (by intro q hq;have e:=Option.some.inj hq;have:=own_ge rr (q:=rb) rfl;omega))
      refine readyH_append (.tmp 78) (.tmp 81) rfl (by kernel_rfl) rfl rfl rfl hrun hbd' (fun _=>?_)
      try simp only[Act.put,List.getElem_toArray,List.getElem_cons_zero,List.getElem_cons_succ,List.setIfInBounds_toArray,List.set_cons_zero,List.set_cons_succ]
      have pp':=row_grw pp hg (fun q hq e=>hpr ((Option.some.inj hq).trans (Option.some.inj e).symm))
      have hpr':pb≠r1:=by have:=(pp.lt pb rfl).2;omega
      clear pp hpr
      have pp:=pp'
      have hpr:=hpr'
      clear pp' hpr'
      clear hrun hz1 hzl1 hg hg' rr hbd
      have hbd:=hbd'
      have rr:=o1
      clear hbd' o1
      refine wpAnyH_ready (rs:=[7]) (by kernel_rfl) (by simp) ?_
      have hz1l:=HZ1.out
      obtain⟨r2,rc2,t11,hrun,o2,hg,hg'⟩:=app_st t10 wr.heap.size r1 rc1 z1 rr _ pb 1 [sp] pp (by simp;omega) hbd.size
      obtain⟨z2,hz2⟩:∃z,z1++[sp]=z:=⟨_,rfl⟩
      rw[hz2]at hrun o2
      have hbd':Below wr.heap.size wr t11:=hbd.trans ((Below.refl _ _).grown hg hbd.size (by intro q hq;have e:=Option.some.inj hq;have:=own_ge rr (q:=r1) rfl;omega))
      refine readyH_append (.tmp 82) (.tmp 84) rfl (by kernel_rfl) rfl rfl rfl hrun hbd' (fun _=>?_)
      try simp only[Act.put,List.getElem_toArray,List.getElem_cons_zero,List.getElem_cons_succ,List.setIfInBounds_toArray,List.set_cons_zero,List.set_cons_succ]
      refine wpAnyH_tk 8 ?k6v rfl ?k6y ?k6r
      case k6y=>(intro w hSw;(try dsimp only at hSw);go_simp;try with_reducible rfl)
      try simp only[Act.put,List.getElem_toArray,List.getElem_cons_zero,List.getElem_cons_succ,List.setIfInBounds_toArray,List.set_cons_zero,List.set_cons_succ]
      refine wpAnyH_done (by kernel_rfl) ?_ _
      have hz2l:z2.length=at'+1:=by rw[<-hz2];simp;omega
      have hr2:wr.heap.size<=r2:=own_ge o2 (q:=r2) rfl
      have RES:Hid (z2.length<=10000/\g≠r2/\(∀b∈ps,b.g≠r2)/\t11.ownsRow w.heap.size 33 11 (.slice (some ⟨r2,0,none⟩) z2.length rc2) z2.length (cs z2)/\t11.ownsRow w.heap.size 33 11 (.slice (some ⟨g,0,none⟩) zs.length gc) zs.length (cs zs)/\QX w p ao n cap pg pc ps t11):=⟨by omega,by have:=(R8.out.lt g rfl).2;omega,fun b hb=>by have:=X8.out.Q.pw.lt b hb;omega,row_down o2 hyw,row_belowD R8.out hbd',X8.out.Q.below hbd'⟩
      clear hrun hz2 hz2l hz1l hg hg' o2 hbd hbd' rr pp v0 v1 v2 v3 v4 v5 v6 v7 v8 v9 v10
      go_wp2_with fail
      go_meet
      exact⟨r2,rc2,z2,rfl,RES.out.1,RES.out.2.1,RES.out.2.2.1,RES.out.2.2.2.1,RES.out.2.2.2.2.1,RES.out.2.2.2.2.2⟩
    case rest=>
    obtain⟨g',c',ys,rfl,hyl,hgg,hng,r9,rn9,q9⟩:=hcut
    generalize wc=y10 at r9 rn9 q9⊢
    obtain⟨g2,c2,v2,hrun,o2,hg,hg'⟩:=app_st y10 w.heap.size g' c' ys r9 _ g gc zs rn9 (by omega) q9.F.size
    obtain⟨zz,hzz⟩:∃z,ys++zs=z:=⟨_,rfl⟩
    rw[hzz]at hrun o2
    have hzzl:zz.length<=100000:=by rw[<-hzz,List.length_append];omega
    have Q10:Hid (QX w p ao n cap pg pc ps v2):=q9.grw r9 hg hng
    have R10:Hid (v2.ownsRow w.heap.size 33 11 (.slice (some ⟨g2,0,none⟩) zz.length c2) zz.length (cs zz)):=o2
    have c8:v2.cell? ⟨pg,pi,none⟩=some (.slice (some ⟨bd.g,0,none⟩) bd.xs.length bd.c):=by
     rw[Q10.out.row.cellAt pi (by omega),List.getElem?_map,HBD.out.1]
     rfl
    have f8:∀i,v2.frozen? ⟨pg,i,none⟩=false:=fun i=>Q10.out.row.frozenAt i
    have l8:=(Q10.out.row.lt pg rfl).2
    have hpl2:(pi:Int)<(ps.length:Int):=by omega
    clear hg hg' o2 hzz r9 rn9 q9 hgg hng X8 R8
    go_wp2_with(first|(at_builtin;refine wpList_app rfl _ _ 28 rfl rfl rfl hrun ?_))
    go_ret
    exact⟨pg,pc,ps.set pi ⟨g2,c2,zz⟩,by simp,by simp;omega,by simp;omega,Q10.out.setP (i:=pi) (b:=⟨g2,c2,zz⟩) R10.out hzzl⟩
  by_cases k5:kk=5
  ·subst k5
   go_wp2_with fail
   go_loopw [7](fun bv wr=>∃(g gc:Nat)(zs:List SV),bv=.slice (some ⟨g,0,none⟩) zs.length gc/\zs.length<=10000/\Hid (∀b∈ps,b.g≠g)/\QX w p ao n cap pg pc ps wr/\wr.ownsRow w.heap.size 33 11 (.slice (some ⟨g,0,none⟩) zs.length gc) zs.length (cs zs))(fun bv _=>502-slenOf bv)
   case atStart=>exact⟨g4,c4,bd.xs,rfl,by omega,N4,X6.out.Q,X6.out.B⟩
   case round=>
    clear X6
    obtain⟨g,gc,zs,rfl,hzl,HN,q8,r8⟩:=hrel
    have Q8:Hid (QX w p ao n cap pg pc ps wr):=q8
    have R8:Hid (wr.ownsRow w.heap.size 33 11 (.slice (some ⟨g,0,none⟩) zs.length gc) zs.length (cs zs)):=r8
    clear q8 r8
    go_wp2_with fail
    refine(l1Below_any p ao n cap 2 _ (by omega) Q8.out.K).mono ?_
    rintro e y8⟨x,rfl,x0,x1,f,k⟩
    have Q9:Hid (QX w p ao n cap pg pc ps y8):=Q8.out.fw f k
    have R9:Hid (y8.ownsRow w.heap.size 33 11 (.slice (some ⟨g,0,none⟩) zs.length gc) zs.length (cs zs)):=row_fw R8.out f Q8.out.lp
    clear f k Q8 R8
    by_cases hlt:(zs.length:Int)<500+x
    ·obtain⟨g2,c2,v2,ys,hrun,hyl,q10,r10,n10,_,_⟩:=app_one y8 g gc zs ⟨1,1,0,0,0,0,0,0,0,0,0⟩ Q9.out R9.out HN.out (by omega)
     unfold stL at hrun
     have RES:Hid (ys.length=zs.length+1/\(∀b∈ps,b.g≠g2)/\QX w p ao n cap pg pc ps v2/\v2.ownsRow w.heap.size 33 11 (.slice (some ⟨g2,0,none⟩) ys.length c2) ys.length (cs ys)):=⟨hyl,n10,q10,r10⟩
     clear hyl q10 r10 n10 Q9 R9
     go_wp2_with(first|(at_builtin;refine wpList_app rfl _ _ 28 rfl rfl rfl hrun ?_))
     clear hrun
     go_roundw
     case rel=>exact⟨g2,c2,ys,rfl,by have:=RES.out.1;omega,RES.out.2.1,RES.out.2.2.1,RES.out.2.2.2⟩
     case measure=>have:=RES.out.1;simp[slenOf];omega
    ·have c8:y8.cell? ⟨pg,pi,none⟩=some (.slice (some ⟨bd.g,0,none⟩) bd.xs.length bd.c):=by
      rw[Q9.out.row.cellAt pi (by omega),List.getElem?_map,HBD.out.1]
      rfl
     have f8:∀i,y8.frozen? ⟨pg,i,none⟩=false:=fun i=>Q9.out.row.frozenAt i
     have l8:=(Q9.out.row.lt pg rfl).2
     go_wp2_with fail
     go_ret
     exact⟨pg,pc,ps.set pi ⟨g,gc,zs⟩,by simp,by simp;omega,by simp;omega,Q9.out.setP (i:=pi) (b:=⟨g,gc,zs⟩) R9.out (by show zs.length<=100000;omega)⟩
  by_cases k6:kk=6
  ·subst k6
   go_upto_region 32 with fail
   obtain⟨y7,hy7,b7,o7⟩:∃y,y6.alloc (.cells #[] 33)=y/\Below y6.heap.size y6 y/\y.ownsRow y6.heap.size 33 11 (.slice (some ⟨y6.heap.size,0,none⟩) ([]:List SV).length 0) ([]:List SV).length (cs []):=⟨_,rfl,(Below.refl _ _).alloc (Nat.le_refl _) _,World.ownsRow_lit y6 #[] 0 (Nat.le_refl _) (by unfold maxLen;omega) rfl⟩
   try rw[hy7]
   have Q7:Hid (QX w p ao n cap pg pc ps y7):=X6.out.Q.below b7
   have R7:Hid (y7.ownsRow w.heap.size 33 11 (.slice (some ⟨y6.heap.size,0,none⟩) ([]:List SV).length 0) ([]:List SV).length (cs [])):=row_down o7 X6.out.Q.F.size
   have N7:Hid (∀b∈ps,b.g≠y6.heap.size):=fun b hb=>by have:=X6.out.Q.pw.lt b hb;omega
   obtain⟨lb,hlb⟩:∃y,y6.heap.size=y:=⟨_,rfl⟩
   rw[hlb]at R7 N7
   try rw[hlb]
   clear hy7 b7 o7 hlb X6
   go_wp2_with fail
   go_loopw [12,13](fun bv iv wr=>∃(g gc:Nat)(zs:List SV),bv=.slice (some ⟨g,0,none⟩) zs.length gc/\iv=.int .i64 (zs.length:Int)/\zs.length<=400/\Hid (∀b∈ps,b.g≠g)/\QX w p ao n cap pg pc ps wr/\wr.ownsRow w.heap.size 33 11 (.slice (some ⟨g,0,none⟩) zs.length gc) zs.length (cs zs))(fun _ iv _=>400-(intOf iv).toNat)
   case atStart=>exact⟨lb,0,[],rfl,rfl,by simp,N7,Q7.out,R7.out⟩
   case round=>
    clear Q7 R7 N7
    obtain⟨g,gc,zs,rfl,rfl,hzl,HN,q8,r8⟩:=hrel
    have Q8:Hid (QX w p ao n cap pg pc ps wr):=q8
    have R8:Hid (wr.ownsRow w.heap.size 33 11 (.slice (some ⟨g,0,none⟩) zs.length gc) zs.length (cs zs)):=r8
    clear q8 r8
    by_cases hlt:zs.length<400
    ·have hlt':(zs.length:Int)<400:=by omega
     obtain⟨g2,c2,v2,ys,hrun,hyl,q10,r10,n10,_,_⟩:=app_one wr g gc zs ⟨1,1,0,0,0,0,0,0,0,0,0⟩ Q8.out R8.out HN.out (by omega)
     unfold stL at hrun
     have RES:Hid (ys.length=zs.length+1/\(∀b∈ps,b.g≠g2)/\QX w p ao n cap pg pc ps v2/\v2.ownsRow w.heap.size 33 11 (.slice (some ⟨g2,0,none⟩) ys.length c2) ys.length (cs ys)):=⟨hyl,n10,q10,r10⟩
     clear hyl q10 r10 n10 Q8 R8
     go_wp2_with(first|(at_builtin;refine wpList_app rfl _ _ 28 rfl rfl rfl hrun ?_))
     clear hrun
     go_roundw
     case rel=>exact⟨g2,c2,ys,rfl,by rw[RES.out.1];simp,by have:=RES.out.1;omega,RES.out.2.1,RES.out.2.2.1,RES.out.2.2.2⟩
     case measure=>simp[intOf];omega
    have hlt':¬(zs.length:Int)<400:=by omega
    obtain⟨y9,hy9,b9,c9⟩:∃y,wr.alloc (.cells #[.slice (some ⟨g,0,none⟩) zs.length gc] 35)=y/\Below wr.heap.size wr y/\(∀j u,[Value.slice (some ⟨g,0,none⟩) zs.length gc][j]?=some u->y.cell? ((⟨wr.heap.size,0,none⟩:Addr).add j)=some u):=⟨_,rfl,(Below.refl _ _).alloc (Nat.le_refl _) _,cells_newD wr _ _⟩
    have Q9:=Q8.out.below b9
    obtain⟨iP,gP,gP0,gP1,gP2⟩:=info_parts info_cPr
    obtain⟨v',y10,hrun,o10,hg,hnil,_⟩:=run_append_own_at (P:=Try.prog) y9 w.heap.size 23 23 35 iP _ 1 24 Try.underlying23 gP gP0 gP1 gP2 rfl (by decide) _ _ _ Q9.row ⟨wr.heap.size,0,none⟩ 1 1 [Value.slice (some ⟨g,0,none⟩) zs.length gc] rfl c9 (by simp[Value.oneCell']) (by unfold maxLen;omega) (by omega) Q9.F.size
    have hn:v'≠ .slice none 0 0:=fun e=>by
     have:=(hnil.1 e).1
     simp at this
    obtain⟨pg2,pc2,rfl⟩:=row_nn o10 hn
    have Q10:=Q9.add (b:=⟨g,gc,zs⟩) hg o10 (row_belowD R8.out b9) (by show zs.length<=100000;omega)
    obtain⟨ps2,hps2⟩:∃q,ps++[⟨g,gc,zs⟩]=q:=⟨_,rfl⟩
    rw[hps2]at Q10
    have hl5:ps2.length=ps.length+1:=by rw[<-hps2];simp
    have HL5:Hid (ps2.length=ps.length+1):=hl5
    rw[<-hl5]at hrun
    have Q10:Hid (QX w p ao n cap pg2 pc2 ps2 y10):=Q10
    clear gP gP0 gP1 gP2 o10 hg hnil hn Q9 c9 Q8 R8 hps2 b9 hl5
    go_upto_region 39 with(first|(at_builtin;refine wpList_app rfl _ _ 23 rfl rfl rfl hrun ?_))
    clear hrun hy9
    obtain⟨y11,hy11,b11,o11⟩:∃y,y10.alloc (.cells #[] 33)=y/\Below y10.heap.size y10 y/\y.ownsRow y10.heap.size 33 11 (.slice (some ⟨y10.heap.size,0,none⟩) ([]:List SV).length 0) ([]:List SV).length (cs []):=⟨_,rfl,(Below.refl _ _).alloc (Nat.le_refl _) _,World.ownsRow_lit y10 #[] 0 (Nat.le_refl _) (by unfold maxLen;omega) rfl⟩
    try rw[hy11]
    have Q11:Hid (QX w p ao n cap pg2 pc2 ps2 y11):=Q10.out.below b11
    have R11:Hid (y11.ownsRow w.heap.size 33 11 (.slice (some ⟨y10.heap.size,0,none⟩) ([]:List SV).length 0) ([]:List SV).length (cs [])):=row_down o11 Q10.out.F.size
    have N11:Hid (∀b∈ps2,b.g≠y10.heap.size):=fun b hb=>by have:=Q10.out.pw.lt b hb;omega
    obtain⟨lb2,hlb2⟩:∃y,y10.heap.size=y:=⟨_,rfl⟩
    rw[hlb2]at R11 N11
    try rw[hlb2]
    clear hy11 b11 o11 hlb2 Q10
    go_wp2_with fail
    go_loopw [15,16](fun bv iv wr=>∃(g gc:Nat)(zs:List SV),bv=.slice (some ⟨g,0,none⟩) zs.length gc/\iv=.int .i64 (zs.length:Int)/\zs.length<=6/\Hid (∀b∈ps2,b.g≠g)/\QX w p ao n cap pg2 pc2 ps2 wr/\wr.ownsRow w.heap.size 33 11 (.slice (some ⟨g,0,none⟩) zs.length gc) zs.length (cs zs))(fun _ iv _=>6-(intOf iv).toNat)
    case atStart=>exact⟨lb2,0,[],rfl,rfl,by simp,N11,Q11.out,R11.out⟩
    case round=>
     clear Q11 R11 N11
     obtain⟨g,gc,zs,rfl,rfl,hzl,HN,q8,r8⟩:=hrel
     have Q8:Hid (QX w p ao n cap pg2 pc2 ps2 wr):=q8
     have R8:Hid (wr.ownsRow w.heap.size 33 11 (.slice (some ⟨g,0,none⟩) zs.length gc) zs.length (cs zs)):=r8
     clear q8 r8
     go_wp2_with fail
     refine(l1Below_any p ao n cap 2 _ (by omega) Q8.out.K).mono ?_
     rintro e y12⟨x,rfl,x0,x1,f,k⟩
     have Q9:Hid (QX w p ao n cap pg2 pc2 ps2 y12):=Q8.out.fw f k
     have R9:Hid (y12.ownsRow w.heap.size 33 11 (.slice (some ⟨g,0,none⟩) zs.length gc) zs.length (cs zs)):=row_fw R8.out f Q8.out.lp
     clear f k Q8 R8
     by_cases hlt:(zs.length:Int)<4+x
     ·obtain⟨g2,c2,v2,ys,hrun,hyl,q10,r10,n10,_,_⟩:=app_one y12 g gc zs ⟨4,0,0,0,0,0,0,0,0,0,(ps.length:Int)⟩ Q9.out R9.out HN.out (by omega)
      unfold stL at hrun
      have RES:Hid (ys.length=zs.length+1/\(∀b∈ps2,b.g≠g2)/\QX w p ao n cap pg2 pc2 ps2 v2/\v2.ownsRow w.heap.size 33 11 (.slice (some ⟨g2,0,none⟩) ys.length c2) ys.length (cs ys)):=⟨hyl,n10,q10,r10⟩
      clear hyl q10 r10 n10 Q9 R9
      go_wp2_with(first|(at_builtin;refine wpList_app rfl _ _ 28 rfl rfl rfl hrun ?_))
      clear hrun
      go_roundw
      case rel=>exact⟨g2,c2,ys,rfl,by rw[RES.out.1];simp,by have:=RES.out.1;omega,RES.out.2.1,RES.out.2.2.1,RES.out.2.2.2⟩
      case measure=>simp[intOf];omega
     ·have hl5:=HL5.out
      have hp0:0<ps2.length:=by omega
      have c8:y12.cell? ⟨pg2,0,none⟩=some (ps2[0]).v:=by
       rw[Q9.out.row.cellAt 0 (by omega),List.getElem?_map,List.getElem?_eq_getElem hp0]
       rfl
      obtain⟨bv,hbv⟩:∃q,(ps2[0]).v=q:=⟨_,rfl⟩
      rw[hbv]at c8
      have f8:∀i,y12.frozen? ⟨pg2,i,none⟩=false:=fun i=>Q9.out.row.frozenAt i
      have l8:=(Q9.out.row.lt pg2 rfl).2
      have hp0':(0:Int)<(ps2.length:Int):=by omega
      clear hbv
      go_wp2_with fail
      go_ret
      exact⟨pg2,pc2,ps2.set 0 ⟨g,gc,zs⟩,by simp;try omega,by simp;omega,by simp;omega,Q9.out.setP (i:=0) (b:=⟨g,gc,zs⟩) R9.out (by show zs.length<=100000;omega)⟩
  ·go_wp2_with fail
   go_meet
   exact⟨rfl,rfl,rfl,_,X6.out⟩
 case rest=>
 obtain⟨rfl,rfl,rfl,s,x7⟩:=hcut
 generalize wc=y7 at x7⊢
 have X7:Hid (SX w p ao n cap pg pc ps g4 c4 bd.xs nq s y7):=x7
 clear x7 X6
 go_upto_region 45 with fail
 go_cut [7](fun s7 wx=>∃(g c:Nat)(zs:List SV),s7=.slice (some ⟨g,0,none⟩) zs.length c/\zs.length<=100000/\wx.ownsRow w.heap.size 33 11 (.slice (some ⟨g,0,none⟩) zs.length c) zs.length (cs zs)/\QX w p ao n cap pg pc ps wx)
 case first=>
  have hbc:bd.xs.length<=bd.c:=row_cap (X7.out.Q.pw bd HBD.out.2).1
  have hcc:bd.xs.length<=c4:=row_cap X7.out.B
  have hpl2:(pi:Int)<(ps.length:Int):=by omega
  have j0:∀w',Below y7.heap.size y7 w'->w'.cell? ⟨pg,pi,none⟩=some (.slice (some ⟨bd.g,0,none⟩) bd.xs.length bd.c):=fun w' h=>by
   rw[(X7.out.Q.below h).row.cellAt pi (by omega),List.getElem?_map,HBD.out.1]
   rfl
  have v0:∀w',Below y7.heap.size y7 w'->w'.cell? ⟨nq,0,none⟩=some (.int .i64 s.k):=fun w' h=>(X7.out.below h).P.cells.1
  have v1:∀w',Below y7.heap.size y7 w'->w'.cell? ⟨nq,1,none⟩=some (.int .i64 s.op):=fun w' h=>(X7.out.below h).P.cells.2.1
  have v2:∀w',Below y7.heap.size y7 w'->w'.cell? ⟨nq,2,none⟩=some (.int .i64 s.d):=fun w' h=>(X7.out.below h).P.cells.2.2.1
  have v3:∀w',Below y7.heap.size y7 w'->w'.cell? ⟨nq,3,none⟩=some (.int .i64 s.a):=fun w' h=>(X7.out.below h).P.cells.2.2.2.1
  have v4:∀w',Below y7.heap.size y7 w'->w'.cell? ⟨nq,4,none⟩=some (.int .i64 s.b):=fun w' h=>(X7.out.below h).P.cells.2.2.2.2.1
  have v5:∀w',Below y7.heap.size y7 w'->w'.cell? ⟨nq,5,none⟩=some (.int .i64 s.imm):=fun w' h=>(X7.out.below h).P.cells.2.2.2.2.2.1
  have v6:∀w',Below y7.heap.size y7 w'->w'.cell? ⟨nq,6,none⟩=some (.int .i64 s.h):=fun w' h=>(X7.out.below h).P.cells.2.2.2.2.2.2.1
  have v7:∀w',Below y7.heap.size y7 w'->w'.cell? ⟨nq,7,none⟩=some (.int .i64 s.cond):=fun w' h=>(X7.out.below h).P.cells.2.2.2.2.2.2.2.1
  have v8:∀w',Below y7.heap.size y7 w'->w'.cell? ⟨nq,8,none⟩=some (.int .i64 s.thn):=fun w' h=>(X7.out.below h).P.cells.2.2.2.2.2.2.2.2.1
  have v9:∀w',Below y7.heap.size y7 w'->w'.cell? ⟨nq,9,none⟩=some (.int .i64 s.els):=fun w' h=>(X7.out.below h).P.cells.2.2.2.2.2.2.2.2.2.1
  have v10:∀w',Below y7.heap.size y7 w'->w'.cell? ⟨nq,10,none⟩=some (.int .i64 s.proc):=fun w' h=>(X7.out.below h).P.cells.2.2.2.2.2.2.2.2.2.2.1
  have ha1:(at':Int)<=(c4:Int):=by omega
  have ha2:(at':Int)<=(bd.xs.length:Int):=by omega
  obtain⟨ad,had,HAD⟩:∃ad:Addr,(if bd.c=at' then some (⟨bd.g,0,none⟩:Addr)else some (⟨bd.g,at'*11,none⟩:Addr))=some ad/\Hid (∀(t:World),Below y7.heap.size y7 t->∀j u,(cs (bd.xs.drop at'))[j]?=some u->t.cell? (ad.add j)=some u):=by
   by_cases e:bd.c=at'
   ·refine⟨_,if_pos e,fun t ht j u hj=>?_⟩
    rw[List.drop_eq_nil_of_le (by omega)]at hj
    simp[cs]at hj
   ·refine⟨_,if_neg e,fun t ht j u hj=>?_⟩
    have r:=((X7.out.below ht).Q.pw bd HBD.out.2).1
    have hj2:j<(bd.xs.length-at')*11:=by
     have:=(List.getElem?_eq_some_iff.1 hj).1
     rw[cs_len,List.length_drop]at this
     exact this
    rw[Addr.add_lit,r.cellAt (at'*11+j) (by omega)]
    rw[cs_drop,List.getElem?_drop]at hj
    exact hj
  have HTK:Hid (∀(t:World),Below y7.heap.size y7 t->∀j u,(cs (bd.xs.take at'))[j]?=some u->t.cell? ((⟨g4,0,none⟩:Addr).add j)=some u):=fun t ht j u hj=>by
   have r:=(X7.out.below ht).B
   have hj2:j<at'*11:=by
    have:=(List.getElem?_eq_some_iff.1 hj).1
    rw[cs_len,List.length_take]at this
    omega
   rw[Addr.add_lit,Nat.zero_add,r.cellAt j (by omega)]
   rw[cs_take,List.getElem?_take,if_pos hj2]at hj
   exact hj
  refine wp_region_held_drew (S:=fun w'=>Below y7.heap.size y7 w') (by kernel_rfl) (Below.refl _ _).drew (fun _=>?_)
  refine wpAnyH_tk 1 ?k7v rfl ?k7y ?k7r
  case k7y=>(intro w hSw;(try dsimp only at hSw);go_simp;try with_reducible rfl)
  try simp only[Act.put,List.getElem_toArray,List.getElem_cons_zero,List.getElem_cons_succ,List.setIfInBounds_toArray,List.set_cons_zero,List.set_cons_succ]
  refine wpAnyH_tk 2 ?k8v rfl ?k8y ?k8r
  case k8y=>(intro w hSw;(try dsimp only at hSw);go_simp;try with_reducible rfl)
  try simp only[Act.put,List.getElem_toArray,List.getElem_cons_zero,List.getElem_cons_succ,List.setIfInBounds_toArray,List.set_cons_zero,List.set_cons_succ]
  refine wpAnyH_tk 3 (.slice (some ⟨g4,0,none⟩) at' c4) rfl ?kay ?kar
  case kay=>(intro w hSw;(try dsimp only at hSw);go_simp;first|done|(rw[if_pos (by omega)];simp)|(split<;>simp_all))
  try simp only[Act.put,List.getElem_toArray,List.getElem_cons_zero,List.getElem_cons_succ,List.setIfInBounds_toArray,List.set_cons_zero,List.set_cons_succ]
  refine wpAnyH_tk 5 ?k9v rfl ?k9y ?k9r
  case k9y=>(intro w hSw;(try dsimp only at hSw);go_simp;try with_reducible rfl)
  try simp only[Act.put,List.getElem_toArray,List.getElem_cons_zero,List.getElem_cons_succ,List.setIfInBounds_toArray,List.set_cons_zero,List.set_cons_succ]
  refine wpAnyH_tk 8 ?k10v rfl ?k10y ?k10r
  case k10y=>(intro w hSw;(try dsimp only at hSw);go_simp;try with_reducible rfl)
  try simp only[Act.put,List.getElem_toArray,List.getElem_cons_zero,List.getElem_cons_succ,List.setIfInBounds_toArray,List.set_cons_zero,List.set_cons_succ]
  refine wpAnyH_tk 9 ?k11v rfl ?k11y ?k11r
  case k11y=>(intro w hSw;(try dsimp only at hSw);go_simp;try with_reducible rfl)
  try simp only[Act.put,List.getElem_toArray,List.getElem_cons_zero,List.getElem_cons_succ,List.setIfInBounds_toArray,List.set_cons_zero,List.set_cons_succ]
  refine wpAnyH_tk 10 ?k12v rfl ?k12y ?k12r
  case k12y=>(intro w hSw;(try dsimp only at hSw);go_simp;try with_reducible rfl)
  try simp only[Act.put,List.getElem_toArray,List.getElem_cons_zero,List.getElem_cons_succ,List.setIfInBounds_toArray,List.set_cons_zero,List.set_cons_succ]
  refine wpAnyH_tk 11 ?k13v rfl ?k13y ?k13r
  case k13y=>(intro w hSw;(try dsimp only at hSw);go_simp;try with_reducible rfl)
  try simp only[Act.put,List.getElem_toArray,List.getElem_cons_zero,List.getElem_cons_succ,List.setIfInBounds_toArray,List.set_cons_zero,List.set_cons_succ]
  refine wpAnyH_tk 12 ?k14v rfl ?k14y ?k14r
  case k14y=>(intro w hSw;(try dsimp only at hSw);go_simp;try with_reducible rfl)
  try simp only[Act.put,List.getElem_toArray,List.getElem_cons_zero,List.getElem_cons_succ,List.setIfInBounds_toArray,List.set_cons_zero,List.set_cons_succ]
  refine wpAnyH_tk 13 ?k15v rfl ?k15y ?k15r
  case k15y=>(intro w hSw;(try dsimp only at hSw);go_simp;try with_reducible rfl)
  try simp only[Act.put,List.getElem_toArray,List.getElem_cons_zero,List.getElem_cons_succ,List.setIfInBounds_toArray,List.set_cons_zero,List.set_cons_succ]
  refine wpAnyH_tk 14 (.slice (some ad) (bd.xs.length-at') (bd.c-at')) rfl ?kby ?kbr
  case kby=>(intro w hSw;(try dsimp only at hSw);go_simp;first|done|(rw[<-had];first|done|(rw[if_pos (by omega)];simp)))
  try simp only[Act.put,List.getElem_toArray,List.getElem_cons_zero,List.getElem_cons_succ,List.setIfInBounds_toArray,List.set_cons_zero,List.set_cons_succ]
  have hbd:Below y7.heap.size y7 y7.drew:=(Below.refl _ _).drew
  generalize y7.drew=t0 at hbd⊢
  clear had
  have hyw:w.heap.size<=y7.heap.size:=X7.out.Q.F.size
  have TK:(bd.xs.take at').length=at':=by rw[List.length_take];omega
  have HTKL:Hid ((bd.xs.take at').length=at'):=TK
  clear TK
  refine wpAnyH_ready (rs:=[0,6]) (by kernel_rfl) (by simp) ?_
  refine AllReadyH.cons rfl (fun KK hK=>?_) (AllReadyH.cons rfl (fun KK hK=>?_) AllReadyH.nil)
  ·skip
   go_simp
   obtain⟨t1,ht1,bn,r0⟩:∃y,t0.alloc (.cells #[] 33)=y/\Below t0.heap.size t0 y/\y.ownsRow t0.heap.size 33 11 (.slice (some ⟨t0.heap.size,0,none⟩) ([]:List SV).length 0) ([]:List SV).length (cs []):=⟨_,rfl,(Below.refl _ _).alloc (Nat.le_refl _) _,World.ownsRow_lit t0 #[] 0 (Nat.le_refl _) (by unfold maxLen;omega) rfl⟩
   rw[ht1]
   have hbd':Below y7.heap.size y7 t1:=hbd.trans (bn.mono hbd.size)
   have rr:t1.ownsRow y7.heap.size 33 11 (.slice (some ⟨t0.heap.size,0,none⟩) ([]:List SV).length 0) ([]:List SV).length (cs []):=row_down r0 hbd.size
   obtain⟨rb,hrb⟩:∃y,t0.heap.size=y:=⟨_,rfl⟩
   rw[hrb]at rr⊢
   refine hK.out _ _ hbd' (fun _=>?_)
   clear hK KK ht1 r0
   try simp only[Act.put,List.getElem_toArray,List.getElem_cons_zero,List.getElem_cons_succ,List.setIfInBounds_toArray,List.set_cons_zero,List.set_cons_succ]
   clear hbd bn hrb
   have hbd:=hbd'
   clear hbd'
   refine wpAnyH_ready (rs:=[4,6]) (by kernel_rfl) (by simp) ?_
   obtain⟨r1,rc1,t2,hrun,o1,hg,hg'⟩:=app_at t1 y7.heap.size rb 0 [] rr ⟨g4,0,none⟩ at' c4 (bd.xs.take at') HTKL.out.symm (HTK.out t1 hbd) (by rw[HTKL.out];simp;omega) hbd.size
   obtain⟨z1,hz1⟩:∃z,[]++bd.xs.take at'=z:=⟨_,rfl⟩
   rw[hz1]at hrun o1
   have hzl1:z1.length=at':=by rw[<-hz1,List.nil_append];exact HTKL.out
   have HZ1:Hid (z1.length=at'):=hzl1
   have hbd':Below y7.heap.size y7 t2:=hbd.trans ((Below.refl _ _).grown hg hbd.size (by intro q hq;have e:=Option.some.inj hq;have:=own_ge rr (q:=rb) rfl;omega))
   refine readyH_app2 (.tmp 150) (.tmp 153) rfl (by kernel_rfl) rfl rfl rfl hrun hbd' (fun _=>?_) (AllReadyH.cons rfl (fun KK hK=>?_) AllReadyH.nil)
   ·skip
    try simp only[Act.put,List.getElem_toArray,List.getElem_cons_zero,List.getElem_cons_succ,List.setIfInBounds_toArray,List.set_cons_zero,List.set_cons_succ]
    clear hrun hz1 hzl1 hg hg' rr hbd
    have hbd:=hbd'
    have rr:=o1
    clear hbd' o1
    refine wpAnyH_ready (rs:=[6]) (by kernel_rfl) (by simp) ?_
    refine AllReadyH.cons rfl (fun KK hK=>?_) AllReadyH.nil
    go_simp
    obtain⟨t3,ht3,bn,p0⟩:∃y,t2.alloc (.cells #[.int .i64 s.k,.int .i64 s.op,.int .i64 s.d,.int .i64 s.a,.int .i64 s.b,.int .i64 s.imm,.int .i64 s.h,.int .i64 s.cond,.int .i64 s.thn,.int .i64 s.els,.int .i64 s.proc] 33)=y/\Below t2.heap.size t2 y/\y.ownsRow t2.heap.size 33 11 (.slice (some ⟨t2.heap.size,0,none⟩) [s].length 1) [s].length (cs [s]):=⟨_,rfl,(Below.refl _ _).alloc (Nat.le_refl _) _,by rw[cs_one];exact World.ownsRow_lit t2 (stL s).toArray 1 (Nat.le_refl _) (by unfold maxLen;omega) rfl⟩
    rw[ht3]
    have hbd':Below y7.heap.size y7 t3:=hbd.trans (bn.mono hbd.size)
    obtain⟨pb,hpb⟩:∃y,t2.heap.size=y:=⟨_,rfl⟩
    have pp:t3.ownsRow y7.heap.size 33 11 (.slice (some ⟨pb,0,none⟩) [s].length 1) [s].length (cs [s]):=by rw[<-hpb];exact row_down p0 hbd.size
    rw[hpb]
    refine hK.out _ _ hbd' (fun _=>?_)
    clear hK KK ht3 p0
    try simp only[Act.put,List.getElem_toArray,List.getElem_cons_zero,List.getElem_cons_succ,List.setIfInBounds_toArray,List.set_cons_zero,List.set_cons_succ]
    have rr':=row_belowD rr bn
    have hpr:pb≠r1:=by have:=(rr.lt r1 rfl).2;omega
    clear rr
    have rr:=rr'
    clear rr'
    clear hbd bn hpb
    have hbd:=hbd'
    clear hbd'
    refine wpAnyH_ready (rs:=[7]) (by kernel_rfl) (by simp) ?_
    have hz1l:=HZ1.out
    obtain⟨r2,rc2,t4,hrun,o2,hg,hg'⟩:=app_st t3 y7.heap.size r1 rc1 z1 rr _ pb 1 [s] pp (by simp;omega) hbd.size
    obtain⟨z2,hz2⟩:∃z,z1++[s]=z:=⟨_,rfl⟩
    rw[hz2]at hrun o2
    have hz2l:z2.length=at'+1:=by rw[<-hz2];simp;omega
    have hbd':Below y7.heap.size y7 t4:=hbd.trans ((Below.refl _ _).grown hg hbd.size (by intro q hq;have e:=Option.some.inj hq;have:=own_ge rr (q:=r1) rfl;omega))
    refine readyH_append (.tmp 154) (.tmp 156) rfl (by kernel_rfl) rfl rfl rfl hrun hbd' (fun _=>?_)
    try simp only[Act.put,List.getElem_toArray,List.getElem_cons_zero,List.getElem_cons_succ,List.setIfInBounds_toArray,List.set_cons_zero,List.set_cons_succ]
    obtain⟨r3,rc3,t4a,hrun3,o3,hg3,hg3'⟩:=app_at t4 y7.heap.size r2 rc2 z2 o2 ad (bd.xs.length-at') (bd.c-at') (bd.xs.drop at') (by rw[List.length_drop]) (HAD.out t4 hbd') (by rw[List.length_drop];omega) hbd'.size
    obtain⟨z3,hz3⟩:∃z,z2++bd.xs.drop at'=z:=⟨_,rfl⟩
    rw[hz3]at hrun3 o3
    have hz3l:z3.length<=100000:=by rw[<-hz3,List.length_append,List.length_drop];omega
    have hbd3:Below y7.heap.size y7 t4a:=hbd'.trans ((Below.refl _ _).grown hg3 hbd'.size (by intro q hq;have e:=Option.some.inj hq;have:=own_ge o2 (q:=r2) rfl;omega))
    refine wpAnyH_ready (rs:=[15]) (by kernel_rfl) (by simp) ?_
    refine readyH_append (.tmp 157) (.tmp 164) rfl (by kernel_rfl) rfl rfl rfl hrun3 hbd3 (fun _=>?_)
    try simp only[Act.put,List.getElem_toArray,List.getElem_cons_zero,List.getElem_cons_succ,List.setIfInBounds_toArray,List.set_cons_zero,List.set_cons_succ]
    refine wpAnyH_tk 16 ?k16v rfl ?k16y ?k16r
    case k16y=>(intro w hSw;(try dsimp only at hSw);go_simp;try with_reducible rfl)
    try simp only[Act.put,List.getElem_toArray,List.getElem_cons_zero,List.getElem_cons_succ,List.setIfInBounds_toArray,List.set_cons_zero,List.set_cons_succ]
    refine wpAnyH_done (by kernel_rfl) ?_ _
    have RES:Hid (z3.length<=100000/\t4a.ownsRow w.heap.size 33 11 (.slice (some ⟨r3,0,none⟩) z3.length rc3) z3.length (cs z3)/\QX w p ao n cap pg pc ps t4a):=⟨hz3l,row_down o3 hyw,X7.out.Q.below hbd3⟩
    clear hrun hrun3 hz2 hz3 hg hg' hg3 hg3' o2 o3 hbd hbd' hbd3 rr pp j0 v0 v1 v2 v3 v4 v5 v6 v7 v8 v9 v10
    go_wp2_with fail
    go_meet
    exact⟨r3,rc3,z3,rfl,RES.out.1,RES.out.2.1,RES.out.2.2⟩
   ·skip
    clear hrun hz1 hzl1 hg hg' o1 hbd' HZ1
    go_simp
    obtain⟨t5,ht5,bn,p0⟩:∃y,t1.alloc (.cells #[.int .i64 s.k,.int .i64 s.op,.int .i64 s.d,.int .i64 s.a,.int .i64 s.b,.int .i64 s.imm,.int .i64 s.h,.int .i64 s.cond,.int .i64 s.thn,.int .i64 s.els,.int .i64 s.proc] 33)=y/\Below t1.heap.size t1 y/\y.ownsRow t1.heap.size 33 11 (.slice (some ⟨t1.heap.size,0,none⟩) [s].length 1) [s].length (cs [s]):=⟨_,rfl,(Below.refl _ _).alloc (Nat.le_refl _) _,by rw[cs_one];exact World.ownsRow_lit t1 (stL s).toArray 1 (Nat.le_refl _) (by unfold maxLen;omega) rfl⟩
    rw[ht5]
    have hbd':Below y7.heap.size y7 t5:=hbd.trans (bn.mono hbd.size)
    obtain⟨pb,hpb⟩:∃y,t1.heap.size=y:=⟨_,rfl⟩
    have pp:t5.ownsRow y7.heap.size 33 11 (.slice (some ⟨pb,0,none⟩) [s].length 1) [s].length (cs [s]):=by rw[<-hpb];exact row_down p0 hbd.size
    rw[hpb]
    refine hK.out _ _ hbd' (fun _=>?_)
    clear hK KK ht5 p0
    try simp only[Act.put,List.getElem_toArray,List.getElem_cons_zero,List.getElem_cons_succ,List.setIfInBounds_toArray,List.set_cons_zero,List.set_cons_succ]
    have rr':=row_belowD rr bn
    have hpr:pb≠rb:=by have:=(rr.lt rb rfl).2;omega
    clear rr
    have rr:=rr'
    clear rr'
    clear hbd bn hpb
    have hbd:=hbd'
    clear hbd'
    refine wpAnyH_ready (rs:=[4]) (by kernel_rfl) (by simp) ?_
    obtain⟨r1,rc1,t6,hrun,o1,hg,hg'⟩:=app_at t5 y7.heap.size rb 0 [] rr ⟨g4,0,none⟩ at' c4 (bd.xs.take at') HTKL.out.symm (HTK.out t5 hbd) (by rw[HTKL.out];simp;omega) hbd.size
    obtain⟨z1,hz1⟩:∃z,[]++bd.xs.take at'=z:=⟨_,rfl⟩
    rw[hz1]at hrun o1
    have hzl1:z1.length=at':=by rw[<-hz1,List.nil_append];exact HTKL.out
    have HZ1:Hid (z1.length=at'):=hzl1
    have hbd':Below y7.heap.size y7 t6:=hbd.trans ((Below.refl _ _).grown hg hbd.size (by intro q hq;have e:=Option.some.inj hq;have:=own_ge rr (q:=rb) rfl;omega))
    refine readyH_append (.tmp 150) (.tmp 153) rfl (by kernel_rfl) rfl rfl rfl hrun hbd' (fun _=>?_)
    try simp only[Act.put,List.getElem_toArray,List.getElem_cons_zero,List.getElem_cons_succ,List.setIfInBounds_toArray,List.set_cons_zero,List.set_cons_succ]
    have pp':=row_grw pp hg (fun q hq e=>hpr ((Option.some.inj hq).trans (Option.some.inj e).symm))
    have hpr':pb≠r1:=by have:=(pp.lt pb rfl).2;omega
    clear pp hpr
    have pp:=pp'
    have hpr:=hpr'
    clear pp' hpr'
    clear hrun hz1 hzl1 hg hg' rr hbd
    have hbd:=hbd'
    have rr:=o1
    clear hbd' o1
    refine wpAnyH_ready (rs:=[7]) (by kernel_rfl) (by simp) ?_
    have hz1l:=HZ1.out
    obtain⟨r2,rc2,t7,hrun,o2,hg,hg'⟩:=app_st t6 y7.heap.size r1 rc1 z1 rr _ pb 1 [s] pp (by simp;omega) hbd.size
    obtain⟨z2,hz2⟩:∃z,z1++[s]=z:=⟨_,rfl⟩
    rw[hz2]at hrun o2
    have hz2l:z2.length=at'+1:=by rw[<-hz2];simp;omega
    have hbd':Below y7.heap.size y7 t7:=hbd.trans ((Below.refl _ _).grown hg hbd.size (by intro q hq;have e:=Option.some.inj hq;have:=own_ge rr (q:=r1) rfl;omega))
    refine readyH_append (.tmp 154) (.tmp 156) rfl (by kernel_rfl) rfl rfl rfl hrun hbd' (fun _=>?_)
    try simp only[Act.put,List.getElem_toArray,List.getElem_cons_zero,List.getElem_cons_succ,List.setIfInBounds_toArray,List.set_cons_zero,List.set_cons_succ]
    obtain⟨r3,rc3,t7a,hrun3,o3,hg3,hg3'⟩:=app_at t7 y7.heap.size r2 rc2 z2 o2 ad (bd.xs.length-at') (bd.c-at') (bd.xs.drop at') (by rw[List.length_drop]) (HAD.out t7 hbd') (by rw[List.length_drop];omega) hbd'.size
    obtain⟨z3,hz3⟩:∃z,z2++bd.xs.drop at'=z:=⟨_,rfl⟩
    rw[hz3]at hrun3 o3
    have hz3l:z3.length<=100000:=by rw[<-hz3,List.length_append,List.length_drop];omega
    have hbd3:Below y7.heap.size y7 t7a:=hbd'.trans ((Below.refl _ _).grown hg3 hbd'.size (by intro q hq;have e:=Option.some.inj hq;have:=own_ge o2 (q:=r2) rfl;omega))
    refine wpAnyH_ready (rs:=[15]) (by kernel_rfl) (by simp) ?_
    refine readyH_append (.tmp 157) (.tmp 164) rfl (by kernel_rfl) rfl rfl rfl hrun3 hbd3 (fun _=>?_)
    try simp only[Act.put,List.getElem_toArray,List.getElem_cons_zero,List.getElem_cons_succ,List.setIfInBounds_toArray,List.set_cons_zero,List.set_cons_succ]
    refine wpAnyH_tk 16 ?k17v rfl ?k17y ?k17r
    case k17y=>(intro w hSw;(try dsimp only at hSw);go_simp;try with_reducible rfl)
    try simp only[Act.put,List.getElem_toArray,List.getElem_cons_zero,List.getElem_cons_succ,List.setIfInBounds_toArray,List.set_cons_zero,List.set_cons_succ]
    refine wpAnyH_done (by kernel_rfl) ?_ _
    have RES:Hid (z3.length<=100000/\t7a.ownsRow w.heap.size 33 11 (.slice (some ⟨r3,0,none⟩) z3.length rc3) z3.length (cs z3)/\QX w p ao n cap pg pc ps t7a):=⟨hz3l,row_down o3 hyw,X7.out.Q.below hbd3⟩
    clear hrun hrun3 hz2 hz3 hg hg' hg3 hg3' o2 o3 hbd hbd' hbd3 rr pp j0 v0 v1 v2 v3 v4 v5 v6 v7 v8 v9 v10
    go_wp2_with fail
    go_meet
    exact⟨r3,rc3,z3,rfl,RES.out.1,RES.out.2.1,RES.out.2.2⟩
  ·skip
   go_simp
   obtain⟨t8,ht8,bn,p0⟩:∃y,t0.alloc (.cells #[.int .i64 s.k,.int .i64 s.op,.int .i64 s.d,.int .i64 s.a,.int .i64 s.b,.int .i64 s.imm,.int .i64 s.h,.int .i64 s.cond,.int .i64 s.thn,.int .i64 s.els,.int .i64 s.proc] 33)=y/\Below t0.heap.size t0 y/\y.ownsRow t0.heap.size 33 11 (.slice (some ⟨t0.heap.size,0,none⟩) [s].length 1) [s].length (cs [s]):=⟨_,rfl,(Below.refl _ _).alloc (Nat.le_refl _) _,by rw[cs_one];exact World.ownsRow_lit t0 (stL s).toArray 1 (Nat.le_refl _) (by unfold maxLen;omega) rfl⟩
   rw[ht8]
   have hbd':Below y7.heap.size y7 t8:=hbd.trans (bn.mono hbd.size)
   obtain⟨pb,hpb⟩:∃y,t0.heap.size=y:=⟨_,rfl⟩
   have pp:t8.ownsRow y7.heap.size 33 11 (.slice (some ⟨pb,0,none⟩) [s].length 1) [s].length (cs [s]):=by rw[<-hpb];exact row_down p0 hbd.size
   rw[hpb]
   refine hK.out _ _ hbd' (fun _=>?_)
   clear hK KK ht8 p0
   try simp only[Act.put,List.getElem_toArray,List.getElem_cons_zero,List.getElem_cons_succ,List.setIfInBounds_toArray,List.set_cons_zero,List.set_cons_succ]
   clear hbd bn hpb
   have hbd:=hbd'
   clear hbd'
   refine wpAnyH_ready (rs:=[0]) (by kernel_rfl) (by simp) ?_
   refine AllReadyH.cons rfl (fun KK hK=>?_) AllReadyH.nil
   go_simp
   obtain⟨t9,ht9,bn,r0⟩:∃y,t8.alloc (.cells #[] 33)=y/\Below t8.heap.size t8 y/\y.ownsRow t8.heap.size 33 11 (.slice (some ⟨t8.heap.size,0,none⟩) ([]:List SV).length 0) ([]:List SV).length (cs []):=⟨_,rfl,(Below.refl _ _).alloc (Nat.le_refl _) _,World.ownsRow_lit t8 #[] 0 (Nat.le_refl _) (by unfold maxLen;omega) rfl⟩
   rw[ht9]
   have hbd':Below y7.heap.size y7 t9:=hbd.trans (bn.mono hbd.size)
   have rr:t9.ownsRow y7.heap.size 33 11 (.slice (some ⟨t8.heap.size,0,none⟩) ([]:List SV).length 0) ([]:List SV).length (cs []):=row_down r0 hbd.size
   obtain⟨rb,hrb⟩:∃y,t8.heap.size=y:=⟨_,rfl⟩
   rw[hrb]at rr⊢
   refine hK.out _ _ hbd' (fun _=>?_)
   clear hK KK ht9 r0
   try simp only[Act.put,List.getElem_toArray,List.getElem_cons_zero,List.getElem_cons_succ,List.setIfInBounds_toArray,List.set_cons_zero,List.set_cons_succ]
   have pp':=row_belowD pp bn
   have hpr:pb≠rb:=by have:=(pp.lt pb rfl).2;omega
   clear pp
   have pp:=pp'
   clear pp'
   clear hbd bn hrb
   have hbd:=hbd'
   clear hbd'
   refine wpAnyH_ready (rs:=[4]) (by kernel_rfl) (by simp) ?_
   obtain⟨r1,rc1,t10,hrun,o1,hg,hg'⟩:=app_at t9 y7.heap.size rb 0 [] rr ⟨g4,0,none⟩ at' c4 (bd.xs.take at') HTKL.out.symm (HTK.out t9 hbd) (by rw[HTKL.out];simp;omega) hbd.size
   obtain⟨z1,hz1⟩:∃z,[]++bd.xs.take at'=z:=⟨_,rfl⟩
   rw[hz1]at hrun o1
   have hzl1:z1.length=at':=by rw[<-hz1,List.nil_append];exact HTKL.out
   have HZ1:Hid (z1.length=at'):=hzl1
   have hbd':Below y7.heap.size y7 t10:=hbd.trans ((Below.refl _ _).grown hg hbd.size (by intro q hq;have e:=Option.some.inj hq;have:=own_ge rr (q:=rb) rfl;omega))
   refine readyH_append (.tmp 150) (.tmp 153) rfl (by kernel_rfl) rfl rfl rfl hrun hbd' (fun _=>?_)
   try simp only[Act.put,List.getElem_toArray,List.getElem_cons_zero,List.getElem_cons_succ,List.setIfInBounds_toArray,List.set_cons_zero,List.set_cons_succ]
   have pp':=row_grw pp hg (fun q hq e=>hpr ((Option.some.inj hq).trans (Option.some.inj e).symm))
   have hpr':pb≠r1:=by have:=(pp.lt pb rfl).2;omega
   clear pp hpr
   have pp:=pp'
   have hpr:=hpr'
   clear pp' hpr'
   clear hrun hz1 hzl1 hg hg' rr hbd
   have hbd:=hbd'
   have rr:=o1
   clear hbd' o1
   refine wpAnyH_ready (rs:=[7]) (by kernel_rfl) (by simp) ?_
   have hz1l:=HZ1.out
   obtain⟨r2,rc2,t11,hrun,o2,hg,hg'⟩:=app_st t10 y7.heap.size r1 rc1 z1 rr _ pb 1 [s] pp (by simp;omega) hbd.size
   obtain⟨z2,hz2⟩:∃z,z1++[s]=z:=⟨_,rfl⟩
   rw[hz2]at hrun o2
   have hz2l:z2.length=at'+1:=by rw[<-hz2];simp;omega
   have hbd':Below y7.heap.size y7 t11:=hbd.trans ((Below.refl _ _).grown hg hbd.size (by intro q hq;have e:=Option.some.inj hq;have:=own_ge rr (q:=r1) rfl;omega))
   refine readyH_append (.tmp 154) (.tmp 156) rfl (by kernel_rfl) rfl rfl rfl hrun hbd' (fun _=>?_)
   try simp only[Act.put,List.getElem_toArray,List.getElem_cons_zero,List.getElem_cons_succ,List.setIfInBounds_toArray,List.set_cons_zero,List.set_cons_succ]
   obtain⟨r3,rc3,t11a,hrun3,o3,hg3,hg3'⟩:=app_at t11 y7.heap.size r2 rc2 z2 o2 ad (bd.xs.length-at') (bd.c-at') (bd.xs.drop at') (by rw[List.length_drop]) (HAD.out t11 hbd') (by rw[List.length_drop];omega) hbd'.size
   obtain⟨z3,hz3⟩:∃z,z2++bd.xs.drop at'=z:=⟨_,rfl⟩
   rw[hz3]at hrun3 o3
   have hz3l:z3.length<=100000:=by rw[<-hz3,List.length_append,List.length_drop];omega
   have hbd3:Below y7.heap.size y7 t11a:=hbd'.trans ((Below.refl _ _).grown hg3 hbd'.size (by intro q hq;have e:=Option.some.inj hq;have:=own_ge o2 (q:=r2) rfl;omega))
   refine wpAnyH_ready (rs:=[15]) (by kernel_rfl) (by simp) ?_
   refine readyH_append (.tmp 157) (.tmp 164) rfl (by kernel_rfl) rfl rfl rfl hrun3 hbd3 (fun _=>?_)
   try simp only[Act.put,List.getElem_toArray,List.getElem_cons_zero,List.getElem_cons_succ,List.setIfInBounds_toArray,List.set_cons_zero,List.set_cons_succ]
   refine wpAnyH_tk 16 ?k18v rfl ?k18y ?k18r
   case k18y=>(intro w hSw;(try dsimp only at hSw);go_simp;try with_reducible rfl)
   try simp only[Act.put,List.getElem_toArray,List.getElem_cons_zero,List.getElem_cons_succ,List.setIfInBounds_toArray,List.set_cons_zero,List.set_cons_succ]
   refine wpAnyH_done (by kernel_rfl) ?_ _
   have RES:Hid (z3.length<=100000/\t11a.ownsRow w.heap.size 33 11 (.slice (some ⟨r3,0,none⟩) z3.length rc3) z3.length (cs z3)/\QX w p ao n cap pg pc ps t11a):=⟨hz3l,row_down o3 hyw,X7.out.Q.below hbd3⟩
   clear hrun hrun3 hz2 hz3 hg hg' hg3 hg3' o2 o3 hbd hbd' hbd3 rr pp j0 v0 v1 v2 v3 v4 v5 v6 v7 v8 v9 v10
   go_wp2_with fail
   go_meet
   exact⟨r3,rc3,z3,rfl,RES.out.1,RES.out.2.1,RES.out.2.2⟩
 case rest=>
 obtain⟨g,gc,zs,rfl,hzl,r7,q7⟩:=hcut
 generalize wc=y8 at r7 q7⊢
 have Q8:Hid (QX w p ao n cap pg pc ps y8):=q7
 have R8:Hid (y8.ownsRow w.heap.size 33 11 (.slice (some ⟨g,0,none⟩) zs.length gc) zs.length (cs zs)):=r7
 have c8:y8.cell? ⟨pg,pi,none⟩=some (.slice (some ⟨bd.g,0,none⟩) bd.xs.length bd.c):=by
  rw[q7.row.cellAt pi (by omega),List.getElem?_map,HBD.out.1]
  rfl
 have f8:∀i,y8.frozen? ⟨pg,i,none⟩=false:=fun i=>q7.row.frozenAt i
 have l8:=(q7.row.lt pg rfl).2
 have hpl2:(pi:Int)<(ps.length:Int):=by omega
 clear r7 q7 X7
 go_wp2_with fail
 go_ret
 exact⟨pg,pc,ps.set pi ⟨g,gc,zs⟩,by simp,by simp;omega,by simp;omega,Q8.out.setP (i:=pi) (b:=⟨g,gc,zs⟩) R8.out hzl⟩
end Go.Proofs.Ytplnpgohdgialaa
