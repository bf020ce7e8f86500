import Derived.Test.YtfpeecaaleijcaaGreatDoorOfCl
import Derived.Test.YtfpeecaaleijcaaGreatDoorOfFu7c
import Derived.Test.YtfpeecaaleijcaaGreatDoorOfFu6c
import Derived.Deep.CutBlock
set_option maxHeartbeats 32000000
set_option maxRecDepth 20000
namespace Go.Proofs.YtfpeecaaleijcaaGreatDoor
open Go.RowKit Go.Deep
variable {a b p:Nat}{u w:World}
def QR(G:Nat->Array Value->Prop)(w:World)(p:Nat)(ao:Option Addr)(n cap:Nat)(e:Ending)(w':World):Prop:=
 ∃(g cg:Nat)(ps:List BD),e=.returned (Vs g ps.length cg)/\1<=ps.length/\ps.length<=100/\QX G w p ao n cap g cg ps w'
def YU:Value->Nat
 |.slice _ k _=>k
 |_=>0
def fJ(u:World)(q:Nat)(s:SV):Prop:=u.heap[q]?=some (.cells (CV s).toArray 89)
theorem fJ.cells{q:Nat}{s:SV}(h:fJ u q s):u.cell? (Va q 0)=some (Vi s.k)/\u.cell? (Va q 1)=some (Vi s.op)/\u.cell? (Va q 2)=some (Vi s.d)/\u.cell? (Va q 3)=some (Vi s.a)/\u.cell? (Va q 4)=some (Vi s.b)/\u.cell? (Va q 5)=some (Vi s.imm)/\u.cell? (Va q 6)=some (Vi s.h)/\u.cell? (Va q 7)=some (Vi s.cond)/\u.cell? (Va q 8)=some (Vi s.thn)/\u.cell? (Va q 9)=some (Vi s.els)/\u.cell? (Va q 10)=some (Vi s.proc)/\(∀i,u.frozen? (Va q i)=false)/\q<u.heap.size:=
 ⟨(AY h 0).trans rfl,(AY h 1).trans rfl,(AY h 2).trans rfl,(AY h 3).trans rfl,(AY h 4).trans rfl,(AY h 5).trans rfl,(AY h 6).trans rfl,(AY h 7).trans rfl,(AY h 8).trans rfl,(AY h 9).trans rfl,(AY h 10).trans rfl,Cr h,Bb h⟩
def Ym(u:World)(q:Nat)(s:SV):World:=((((((((((u.setCell (Va q 0) (Vi s.k)).setCell (Va q 1) (Vi s.op)).setCell (Va q 2) (Vi s.d)).setCell (Va q 3) (Vi s.a)).setCell (Va q 4) (Vi s.b)).setCell (Va q 5) (Vi s.imm)).setCell (Va q 6) (Vi s.h)).setCell (Va q 7) (Vi s.cond)).setCell (Va q 8) (Vi s.thn)).setCell (Va q 9) (Vi s.els)).setCell (Va q 10) (Vi s.proc)
structure QL(G:Nat->Array Value->Prop)(w:World)(p:Nat)(ao:Option Addr)(n cap:Nat)(pg pc:Nat)(ps:List BD)(bg bc:Nat)(xs:List SV)(q:Nat)(s:SV)(u:World):Prop where
 Q:QX G w p ao n cap pg pc ps u
 B:u.ownsRow w.heap.size 89 11 (Vs bg xs.length bc) xs.length (BZ xs)
 P:fJ u q s
 n1:∀b∈ps,b.g≠bg
 n2:∀b∈ps,b.g≠q
 n3:bg≠q
 wq:w.heap.size<=q
section
variable{G:Nat->Array Value->Prop}{w:World}{p:Nat}{ao:Option Addr}{n cap pg pc:Nat}{ps:List BD}{bg bc:Nat}{xs:List SV}{q:Nat}{s:SV}{u u':World}
theorem QL.fw(h:QL G w p ao n cap pg pc ps bg bc xs q s u)(f:Fw p u u')(k:Bj u' p ao n cap):QL G w p ao n cap pg pc ps bg bc xs q s u':=⟨h.Q.fw f k,DX h.B f h.Q.lp,CJ h.P f (by have:=h.Q.lp;have:=h.wq;omega),h.n1,h.n2,h.n3,h.wq⟩
theorem QL.below(h:QL G w p ao n cap pg pc ps bg bc xs q s u)(f:Below u.heap.size u u'):QL G w p ao n cap pg pc ps bg bc xs q s u':=h.fw (.of_below f) (h.Q.K.below f)
theorem QL.put1(h:QL G w p ao n cap pg pc ps bg bc xs q s u){s':SV}(j:Nat)(v:Value)(hs:(CV s).toArray.setIfInBounds j v=(CV s').toArray):QL G w p ao n cap pg pc ps bg bc xs q s' (u.setCell (Va q j) v):=
 ⟨h.Q.put h.P h.wq h.n2 _ _,Cs h.B (fun e=>h.n3 (Option.some.inj e)) _ _,by unfold fJ;rw[<-hs];exact Ci h.P j v,h.n1,h.n2,h.n3,h.wq⟩
theorem QL.put11(h:QL G w p ao n cap pg pc ps bg bc xs q s u)(s':SV):QL G w p ao n cap pg pc ps bg bc xs q s' (Ym u q s'):=by
 have go:∀{v:World}{r:SV}(j:Nat)(x:Value),(∃vs,(CV r).toArray.setIfInBounds j x=(CV vs).toArray)->QL G w p ao n cap pg pc ps bg bc xs q r v->∃vs,QL G w p ao n cap pg pc ps bg bc xs q vs (v.setCell (Va q j) x)/\(CV r).toArray.setIfInBounds j x=(CV vs).toArray:=fun j x⟨vs,hv⟩hh=>⟨vs,hh.put1 j x hv,hv⟩
 exact((((((((((h.put1 (s':={s with k:=s'.k}) 0 _ rfl).put1 (s':={s with k:=s'.k,op:=s'.op}) 1 _ rfl).put1 (s':={s with k:=s'.k,op:=s'.op,d:=s'.d}) 2 _ rfl).put1 (s':={s with k:=s'.k,op:=s'.op,d:=s'.d,a:=s'.a}) 3 _ rfl).put1 (s':={s with k:=s'.k,op:=s'.op,d:=s'.d,a:=s'.a,b:=s'.b}) 4 _ rfl).put1 (s':={s with k:=s'.k,op:=s'.op,d:=s'.d,a:=s'.a,b:=s'.b,imm:=s'.imm}) 5 _ rfl).put1 (s':={s with k:=s'.k,op:=s'.op,d:=s'.d,a:=s'.a,b:=s'.b,imm:=s'.imm,h:=s'.h}) 6 _ rfl).put1 (s':={s with k:=s'.k,op:=s'.op,d:=s'.d,a:=s'.a,b:=s'.b,imm:=s'.imm,h:=s'.h,cond:=s'.cond}) 7 _ rfl).put1 (s':={s with k:=s'.k,op:=s'.op,d:=s'.d,a:=s'.a,b:=s'.b,imm:=s'.imm,h:=s'.h,cond:=s'.cond,thn:=s'.thn}) 8 _ rfl).put1 (s':={s' with proc:=s.proc}) 9 _ rfl).put1 (s':=s') 10 _ rfl
end
theorem KO(G:Nat->Array Value->Prop)(w:World)(p:Nat)(ao:Option Addr)(n cap:Nat)(pg pc:Nat)(ps:List BD)(u:World)(hl1:1<=ps.length)(hl2:ps.length<=3)(hsm:∀b∈ps,b.xs.length<=9330)(hq:QX G w p ao n cap pg pc ps u):
 Calls Tryz.prog 13 #[Vq p,Vs pg ps.length pc] u (QR G w p ao n cap):=by
 have Q0:=hxy hq;clear hq;go_enter Tryz.func13,Tryz.ntmps13;go_wp2_with fail;refine(Aa p ao n cap (ps.length:Int) _ (by omega) Q0.out.K).mono ?_;rintro e y1⟨x,rfl,x0,x1,f,k⟩;have Q1:=hxy (Q0.out.fw f k);obtain⟨pi,hpi⟩:∃pi:Nat,x=(pi:Int):=⟨x.toNat,by omega⟩
 subst hpi;have hpl:pi<ps.length:=by omega
 clear f k Q0 x0 x1;go_wp2_with fail;refine(Aa p ao n cap 8 _ (by omega) Q1.out.K).mono ?_;rintro e y2⟨kk,rfl,kk0,kk8,f,k⟩;have Q2:=hxy (Q1.out.fw f k);clear f k Q1;obtain⟨bd,hbd⟩:∃bd:BD,ps[pi]?=some bd:=⟨_,List.getElem?_eq_getElem hpl⟩
 have hmem:=List.mem_of_getElem? hbd;have hpl':(pi:Int)<(ps.length:Int):=by omega
 obtain⟨y3,hy3,b3,o3⟩:∃y,y2.alloc (.cells #[] 89)=y/\Below y2.heap.size y2 y/\y.ownsRow y2.heap.size 89 11 (Vs y2.heap.size ([]:List SV).length 0) ([]:List SV).length (BZ []):=⟨_,rfl,Ak,World.ownsRow_lit y2 #[] 0 jG (by unfold maxLen;omega) rfl⟩
 have Q3:=Q2.out.below b3;have c3:y3.cell? (Va pg pi)=some (Vs bd.g bd.xs.length bd.c):=by
  rw[Q3.row.cellAt pi (by omega),List.getElem?_map,hbd];rfl
 have l3:=(Q3.row.lt pg rfl).2;have hbl:=hsm bd hmem;obtain⟨g4,c4,y4,hrun,o4,hg,hg'⟩:=Dn y3 w.heap.size y2.heap.size 0 [] (Au o3 Q2.out.F.size) _ bd.g bd.c bd.xs (Q3.pw bd hmem).1 (by simp;omega) Q3.F.size;have hnn:∀b∈ps,b.g≠y2.heap.size:=fun b hb=>by have:=Q2.out.pw.lt b hb;omega
 have Q4:=Q3.grw (Au o3 Q2.out.F.size) hg hnn;have hz3:y3.heap.size=y2.heap.size+1:=by rw[<-hy3];simp
 have n4:∀b∈ps,b.g≠g4:=fun b hb=>by have:=hnn b hb;have:=Q2.out.pw.lt b hb;omega
 rw[List.nil_append]at hrun o4;have B4:=hxy o4;have Q4:=hxy Q4;have N4:=hxy n4;clear b3 o3 Q3 o4 hg hg' hnn hz3 n4 Q2;go_upto_region 4 with(first|(at_builtin;refine Bg rfl _ _ 36 rfl rfl rfl hrun ?_));clear hrun hy3 c3 l3;have HBD:Hid (ps[pi]?=some bd/\bd∈ps):=⟨hbd,hmem⟩
 clear hbd hmem;go_wp2_with fail;refine(Aa p ao n cap ((bd.xs.length:Int)+1) _ (by omega) Q4.out.K).mono ?_;rintro e y5⟨x,rfl,x0,x1,f,k⟩;have Q5:=Q4.out.fw f k;have B5:=DX B4.out f Q4.out.lp;obtain⟨at',hat⟩:∃at':Nat,x=(at':Int):=⟨x.toNat,by omega⟩
 subst hat;have hal:at'<=bd.xs.length:=by omega
 obtain⟨y6,hy6,b6,s6⟩:∃y,y5.alloc (.cells #[Vi 4,Vi 0,Vi 0,Vi 0,Vi 0,Vi 0,Vi 0,Vi 0,Vi 0,Vi 0,Vi (pi:Int)] 89)=y/\Below y5.heap.size y5 y/\fJ y y5.heap.size ⟨4,0,0,0,0,0,0,0,0,0,(pi:Int)⟩:=⟨_,rfl,Ak,Bh _ _⟩
 have X6:Hid (QL G w p ao n cap pg pc ps g4 c4 bd.xs y5.heap.size ⟨4,0,0,0,0,0,0,0,0,0,(pi:Int)⟩ y6):=⟨Q5.below b6,Ah B5 b6,s6,N4.out,fun b hb=>by have:=Q5.pw.lt b hb;omega,by have:=(B5.lt g4 rfl).2;omega,Q5.F.size⟩
 obtain⟨nq,hnq⟩:=Ae y5.heap.size;rw[hnq]at X6;clear f k Q5 B5 b6 s6 Q4 B4 x0 x1;go_upto_region 6 with fail;try rw[hy6]
 try rw[hnq]
 clear hy6 hnq;go_upto_block 0 with fail;go_cut [1,7,9](fun s1 s7 s9 wx=>s1=Vs pg ps.length pc/\s7=Vs g4 bd.xs.length c4/\s9=Vq nq/\∃s,QL G w p ao n cap pg pc ps g4 c4 bd.xs nq s wx)
 case first=>
  by_cases k0:kk=0
  ·subst k0
   obtain⟨c0,c1,c2,c3,c4',c5,c6,c7,c8,c9,c10,cf,cl⟩:=X6.out.P.cells;go_wp2_with fail;go_meet;exact⟨rfl,rfl,rfl,_,X6.out.put1 (s':=⟨4,0,0,0,0,0,0,0,0,0,(ps.length:Int)⟩) 10 _ rfl⟩
  by_cases k1:kk=1
  ·subst k1
   go_wp2_with fail;refine(Aa p ao n cap 40 _ (by omega) X6.out.Q.K).mono ?_;rintro e y7⟨x,rfl,x0,x1,f,k⟩;have X7:=hxy (X6.out.fw f k);clear f k X6;obtain⟨c0,c1,c2,c3,c4',c5,c6,c7,c8,c9,c10,cf,cl⟩:=X7.out.P.cells;go_wp2_with fail;go_meet;exact⟨rfl,rfl,rfl,_,X7.out.put11 ⟨2,0,0,0,0,0,0,1,1+x,0,0⟩⟩
  by_cases k2:kk=2
  ·subst k2
   go_wp2_with fail;refine(Aa p ao n cap 2 _ (by omega) X6.out.Q.K).mono ?_;rintro e y7⟨x,rfl,x0,x1,f,k⟩;have X7:=hxy (X6.out.fw f k);clear f k X6;obtain⟨c0,c1,c2,c3,c4',c5,c6,c7,c8,c9,c10,cf,cl⟩:=X7.out.P.cells;go_wp2_with fail;go_meet;exact⟨rfl,rfl,rfl,_,X7.out.put11 ⟨3,0,0,0,0,0,0,5*x,0,0,0⟩⟩
  by_cases k3:kk=3
  ·subst k3
   obtain⟨c0,c1,c2,c3,c4',c5,c6,c7,c8,c9,c10,cf,cl⟩:=X6.out.P.cells;go_wp2_with fail;go_meet;exact⟨rfl,rfl,rfl,_,X6.out.put11 ⟨1,34,0,0,0,0,0,0,0,0,0⟩⟩
  by_cases k4:kk=4
  ·subst k4
   go_wp2_with fail
   refine(Aa p ao n cap 2 _ (by omega) X6.out.Q.K).mono ?_
   rintro e y7⟨x,rfl,x0,x1,f,k⟩
   have X7:=hxy (X6.out.fw f k)
   clear f k X6
   obtain⟨c0,c1,c2,c3,c4',c5,c6,c7,c8,c9,c10,cf,cl⟩:=X7.out.P.cells
   obtain⟨y8,hy8,x8⟩:∃y,Ym y7 nq ⟨2,0,0,0,0,0,0,2,15+x,0,0⟩=y/\QL G w p ao n cap pg pc ps g4 c4 bd.xs nq ⟨2,0,0,0,0,0,0,2,15+x,0,0⟩ y:=⟨_,rfl,X7.out.put11 ⟨2,0,0,0,0,0,0,2,15+x,0,0⟩⟩
   unfold Ym at hy8
   dsimp only at hy8
   go_upto_region 17 with fail
   try rw[hy8]
   obtain⟨sp,hsp⟩:∃s:SV,(⟨2,0,0,0,0,0,0,2,15+x,0,0⟩:SV)=s:=⟨_,rfl⟩
   have hthn:sp.thn=15+x:=by rw[<-hsp]
   rw[hsp]at x8
   have X8:=hxy x8
   clear hy8 x8 X7 c0 c1 c2 c3 c4' c5 c6 c7 c8 c9 c10 cf cl hsp
   obtain⟨dn,hdn⟩:∃dn:Nat,15+x=(dn:Int):=⟨(15+x).toNat,by omega⟩
   have hd17:dn<=17:=by omega
   rw[hdn]at hthn
   have HTH:=hxy hthn
   clear hthn hdn
   obtain⟨y9,hy9,b9,o9⟩:∃y,y8.alloc (.cells #[] 89)=y/\Below y8.heap.size y8 y/\y.ownsRow y8.heap.size 89 11 (Vs y8.heap.size ([]:List SV).length 0) ([]:List SV).length (BZ []):=⟨_,rfl,Ak,World.ownsRow_lit y8 #[] 0 jG (by unfold maxLen;omega) rfl⟩
   have X9:=hxy (X8.out.below b9)
   have R9:=hxy (Au o9 X8.out.Q.F.size)
   have N9:Hid ((∀b∈ps,b.g≠y8.heap.size)/\g4≠y8.heap.size/\nq≠y8.heap.size):=⟨fun b hb=>by have:=X8.out.Q.pw.lt b hb;omega,by have:=(X8.out.B.lt g4 rfl).2;omega,by have:=Bb X8.out.P;omega⟩
   obtain⟨nb,hnb⟩:=Ae y8.heap.size
   rw[hnb]at R9 N9
   obtain⟨c0,c1,c2,c3,c4',c5,c6,c7,c8,c9,c10,cf,cl⟩:=X9.out.P.cells
   rw[HTH.out]at c8
   go_wp2_with fail
   try rw[hnb]
   clear c0 c1 c2 c3 c4' c5 c6 c7 c8 c9 c10 cf cl hy9 b9 o9 hnb X8
   go_loopw [10,11](fun bv iv wr=>∃(g gc:Nat)(zs:List SV)(dn:Nat),bv=Vs g zs.length gc/\iv=Vi (dn:Int)/\zs.length+dn<=17/\Hid ((∀b∈ps,b.g≠g)/\g4≠g/\nq≠g)/\QL G w p ao n cap pg pc ps g4 c4 bd.xs nq sp wr/\wr.ownsRow w.heap.size 89 11 (Vs g zs.length gc) zs.length (BZ zs))(fun _ iv _=>(intOf iv).toNat)
   case atStart=>exact⟨nb,0,[],dn,rfl,rfl,by simpa using hd17,N9,X9.out,R9.out⟩
   case round=>
    clear X9 R9 N9
    obtain⟨g,gc,zs,dn,rfl,rfl,hzl,HN,q8,r8⟩:=hrel
    have X8:=hxy q8
    have R8:=hxy r8
    clear q8 r8
    by_cases hd0:0<dn
    ·have hd0':(0:Int)<(dn:Int):=by omega
     obtain⟨de,hde⟩:∃de:Nat,dn=de+1:=⟨dn-1,by omega⟩
     have hsub:(dn:Int)-1=(de:Int):=by omega
     have HDE:=hxy hde
     clear hde
     obtain⟨g2,c2,v2,ys,hrun,hyl,q10,r10,n10,hrw,hbl⟩:=LV wr g gc zs ⟨3,0,0,0,0,0,0,3,(de:Int),0,0⟩ X8.out.Q R8.out HN.out.1 (by omega)
     unfold CV at hrun
     have hB:=hrw g4 c4 bd.xs HN.out.2.1 X8.out.B
     have hP:=hbl nq _ HN.out.2.2 X8.out.P
     have RES:Hid (ys.length=zs.length+1/\((∀b∈ps,b.g≠g2)/\g4≠g2/\nq≠g2)/\QL G w p ao n cap pg pc ps g4 c4 bd.xs nq sp v2/\v2.ownsRow w.heap.size 89 11 (Vs g2 ys.length c2) ys.length (BZ ys)):=⟨hyl,⟨n10,hB.1,hP.1⟩,⟨q10,hB.2,hP.2,X8.out.n1,X8.out.n2,X8.out.n3,X8.out.wq⟩,r10⟩
     clear hyl q10 r10 n10 hrw hbl hB hP X8 R8
     go_wp2_with(first|(at_builtin;refine Bg rfl _ _ 36 rfl rfl rfl hrun ?_))
     clear hrun
     go_roundw
     case rel=>exact⟨g2,c2,ys,de,rfl,rfl,by have:=RES.out.1;have:=HDE.out;omega,RES.out.2.1,RES.out.2.2.1,RES.out.2.2.2⟩
     case measure=>have:=HDE.out;simp[intOf];omega
    have hd0':¬(0:Int)<(dn:Int):=by omega
    clear hsm
    go_upto_region 22 with fail
    go_cut [7](fun s7 wx=>∃(g' c':Nat)(ys:List SV),s7=Vs g' ys.length c'/\ys.length<=10000/\g≠g'/\(∀b∈ps,b.g≠g')/\wx.ownsRow w.heap.size 89 11 (Vs g' ys.length c') ys.length (BZ ys)/\wx.ownsRow w.heap.size 89 11 (Vs g zs.length gc) zs.length (BZ zs)/\QX G w p ao n cap pg pc ps wx)
    case first=>
     have hcc:=IE X8.out.B
     have v0:∀w',Below wr.heap.size wr w'->w'.cell? (Va nq 0)=some (Vi sp.k):=fun w' h=>(X8.out.below h).P.cells.1
     have v1:∀w',Below wr.heap.size wr w'->w'.cell? (Va nq 1)=some (Vi sp.op):=fun w' h=>(X8.out.below h).P.cells.2.1
     have v2:∀w',Below wr.heap.size wr w'->w'.cell? (Va nq 2)=some (Vi sp.d):=fun w' h=>(X8.out.below h).P.cells.2.2.1
     have v3:∀w',Below wr.heap.size wr w'->w'.cell? (Va nq 3)=some (Vi sp.a):=fun w' h=>(X8.out.below h).P.cells.2.2.2.1
     have v4:∀w',Below wr.heap.size wr w'->w'.cell? (Va nq 4)=some (Vi sp.b):=fun w' h=>(X8.out.below h).P.cells.2.2.2.2.1
     have v5:∀w',Below wr.heap.size wr w'->w'.cell? (Va nq 5)=some (Vi sp.imm):=fun w' h=>(X8.out.below h).P.cells.2.2.2.2.2.1
     have v6:∀w',Below wr.heap.size wr w'->w'.cell? (Va nq 6)=some (Vi sp.h):=fun w' h=>(X8.out.below h).P.cells.2.2.2.2.2.2.1
     have v7:∀w',Below wr.heap.size wr w'->w'.cell? (Va nq 7)=some (Vi sp.cond):=fun w' h=>(X8.out.below h).P.cells.2.2.2.2.2.2.2.1
     have v8:∀w',Below wr.heap.size wr w'->w'.cell? (Va nq 8)=some (Vi sp.thn):=fun w' h=>(X8.out.below h).P.cells.2.2.2.2.2.2.2.2.1
     have v9:∀w',Below wr.heap.size wr w'->w'.cell? (Va nq 9)=some (Vi sp.els):=fun w' h=>(X8.out.below h).P.cells.2.2.2.2.2.2.2.2.2.1
     have v10:∀w',Below wr.heap.size wr w'->w'.cell? (Va nq 10)=some (Vi sp.proc):=fun w' h=>(X8.out.below h).P.cells.2.2.2.2.2.2.2.2.2.2.1
     have ha1:(at':Int)<=(c4:Int):=by omega
     have HTK:Hid (∀(t:World),Below wr.heap.size wr t->∀j u,(BZ (bd.xs.take at'))[j]?=some u->t.cell? ((⟨g4,0,none⟩:Addr).add j)=some u):=fun t ht j u hj=>by
      have r:=(X8.out.below ht).B
      have hj2:j<at'*11:=by
       have:=(List.getElem?_eq_some_iff.1 hj).1
       rw[IB,List.length_take]at this
       omega
      rw[Addr.add_lit,Nat.zero_add,r.cellAt j (by omega)]
      rw[QW,List.getElem?_take,if_pos hj2]at hj
      exact hj
     refine wp_region_held_drew (S:=fun w'=>Below wr.heap.size wr w') (by kernel_rfl) (Below.refl _ _).drew (fun _=>?_)
     refine AB 1 rfl ?_
     refine AB 2 rfl ?_
     refine Ad 3 (Vs g4 at' c4) rfl ?kcy ?kcr
     case kcy=>(intro w hSw;(try dsimp only at hSw);go_simp;first|done|(rw[if_pos (by omega)];simp)|(split<;>simp_all))
     try simp only[Act.put,BP,BN,BK,BQ,BS,BM]
     refine AB 5 rfl ?_
     have hbd:Below wr.heap.size wr wr.drew:=(Below.refl _ _).drew
     generalize wr.drew=t0 at hbd⊢
     have hyw:=X8.out.Q.F.size
     have TK:(bd.xs.take at').length=at':=by rw[List.length_take];omega
     have HTKL:=hxy TK
     clear TK
     refine wpAnyH_ready (rs:=[0,6]) (by kernel_rfl) (by simp) ?_
     refine AllReadyH.cons rfl (fun KK hK=>?_) (AllReadyH.cons rfl (fun KK hK=>?_) AllReadyH.nil)
     ·skip
      go_simp
      obtain⟨t1,ht1,bn,r0⟩:∃y,t0.alloc (.cells #[] 89)=y/\Below t0.heap.size t0 y/\y.ownsRow t0.heap.size 89 11 (Vs t0.heap.size ([]:List SV).length 0) ([]:List SV).length (BZ []):=⟨_,rfl,Ak,World.ownsRow_lit t0 #[] 0 jG (by unfold maxLen;omega) rfl⟩
      rw[ht1]
      have hbd':=hbd.trans (bn.mono hbd.size)
      have rr:=Au r0 hbd.size
      obtain⟨rb,hrb⟩:=Ae t0.heap.size
      rw[hrb]at rr⊢
      refine hK.out _ _ hbd' (fun _=>?_)
      clear hK KK ht1 r0
      try simp only[Act.put,BP,BN,BK,BQ,BS,BM]
      clear hbd bn hrb
      have hbd:=hbd'
      clear hbd'
      refine wpAnyH_ready (rs:=[4,6]) (by kernel_rfl) (by simp) ?_
      obtain⟨r1,rc1,t2,hrun,o1,hg,hg'⟩:=GX t1 wr.heap.size rb 0 [] rr ⟨g4,0,none⟩ at' c4 (bd.xs.take at') HTKL.out.symm (HTK.out t1 hbd) (by rw[HTKL.out];simp;omega) hbd.size
      obtain⟨z1,hz1⟩:=Ae ([]++bd.xs.take at')
      rw[hz1]at hrun o1
      have hzl1:z1.length=at':=by rw[<-hz1,List.nil_append];exact HTKL.out
      have HZ1:=hxy hzl1
      have hbd':Below wr.heap.size wr t2:=hbd.trans ((Below.refl _ _).grown hg hbd.size (by intro q hq;have e:=Option.some.inj hq;have:=Ba rr (q:=rb) rfl;omega))
      refine Kh (.tmp 78) (.tmp 81) rfl (by kernel_rfl) rfl rfl rfl hrun hbd' (fun _=>?_) (AllReadyH.cons rfl (fun KK hK=>?_) AllReadyH.nil)
      ·skip
       try simp only[Act.put,BP,BN,BK,BQ,BS,BM]
       clear hrun hz1 hzl1 hg hg' rr hbd
       have hbd:=hbd'
       have rr:=o1
       clear hbd' o1
       refine AO 6 rfl (fun KK hK=>?_)
       go_simp
       obtain⟨t3,ht3,bn,p0⟩:∃y,t2.alloc (.cells #[Vi sp.k,Vi sp.op,Vi sp.d,Vi sp.a,Vi sp.b,Vi sp.imm,Vi sp.h,Vi sp.cond,Vi sp.thn,Vi sp.els,Vi sp.proc] 89)=y/\Below t2.heap.size t2 y/\y.ownsRow t2.heap.size 89 11 (.slice (some ⟨t2.heap.size,0,none⟩) [sp].length 1) [sp].length (BZ [sp]):=⟨_,rfl,Ak,by rw[ED];exact World.ownsRow_lit t2 (CV sp).toArray 1 jG (by unfold maxLen;omega) rfl⟩
       rw[ht3]
       have hbd':=hbd.trans (bn.mono hbd.size)
       obtain⟨pb,hpb⟩:=Ae t2.heap.size
       have pp:t3.ownsRow wr.heap.size 89 11 (.slice (some ⟨pb,0,none⟩) [sp].length 1) [sp].length (BZ [sp]):=by rw[<-hpb];exact Au p0 hbd.size
       rw[hpb]
       refine hK.out _ _ hbd' (fun _=>?_)
       clear hK KK ht3 p0
       try simp only[Act.put,BP,BN,BK,BQ,BS,BM]
       have rr':=Ah rr bn
       have hpr:pb≠r1:=by have:=(rr.lt r1 rfl).2;omega
       clear rr
       have rr:=rr'
       clear rr'
       clear hbd bn hpb
       have hbd:=hbd'
       clear hbd'
       refine wpAnyH_ready (rs:=[7]) (by kernel_rfl) (by simp) ?_
       have hz1l:=HZ1.out
       obtain⟨r2,rc2,t4,hrun,o2,hg,hg'⟩:=Dn t3 wr.heap.size r1 rc1 z1 rr _ pb 1 [sp] pp (by simp;omega) hbd.size
       obtain⟨z2,hz2⟩:=Ae (z1++[sp])
       rw[hz2]at hrun o2
       have hbd':Below wr.heap.size wr t4:=hbd.trans ((Below.refl _ _).grown hg hbd.size (by intro q hq;have e:=Option.some.inj hq;have:=Ba rr (q:=r1) rfl;omega))
       refine BI (.tmp 82) (.tmp 84) rfl (by kernel_rfl) rfl rfl rfl hrun hbd' (fun _=>?_)
       try simp only[Act.put,BP,BN,BK,BQ,BS,BM]
       refine AB 8 rfl ?_
       refine wpAnyH_done (by kernel_rfl) ?_ _
       have hz2l:z2.length=at'+1:=by rw[<-hz2];simp;omega
       have hr2:wr.heap.size<=r2:=Ba o2 (q:=r2) rfl
       have RES:Hid (z2.length<=10000/\g≠r2/\(∀b∈ps,b.g≠r2)/\t4.ownsRow w.heap.size 89 11 (Vs r2 z2.length rc2) z2.length (BZ z2)/\t4.ownsRow w.heap.size 89 11 (Vs g zs.length gc) zs.length (BZ zs)/\QX G w p ao n cap pg pc ps t4):=⟨by omega,by have:=(R8.out.lt g rfl).2;omega,fun b hb=>by have:=X8.out.Q.pw.lt b hb;omega,Au o2 hyw,Ah R8.out hbd',X8.out.Q.below hbd'⟩
       clear hrun hz2 hz2l hz1l hg hg' o2 hbd hbd' rr pp v0 v1 v2 v3 v4 v5 v6 v7 v8 v9 v10
       go_wp2_with fail
       go_meet
       exact⟨r2,rc2,z2,rfl,RES.out.1,RES.out.2.1,RES.out.2.2.1,RES.out.2.2.2.1,RES.out.2.2.2.2.1,RES.out.2.2.2.2.2⟩
      ·skip
       clear hrun hz1 hzl1 hg hg' o1 hbd' HZ1
       go_simp
       obtain⟨t5,ht5,bn,p0⟩:∃y,t1.alloc (.cells #[Vi sp.k,Vi sp.op,Vi sp.d,Vi sp.a,Vi sp.b,Vi sp.imm,Vi sp.h,Vi sp.cond,Vi sp.thn,Vi sp.els,Vi sp.proc] 89)=y/\Below t1.heap.size t1 y/\y.ownsRow t1.heap.size 89 11 (.slice (some ⟨t1.heap.size,0,none⟩) [sp].length 1) [sp].length (BZ [sp]):=⟨_,rfl,Ak,by rw[ED];exact World.ownsRow_lit t1 (CV sp).toArray 1 jG (by unfold maxLen;omega) rfl⟩
       rw[ht5]
       have hbd':=hbd.trans (bn.mono hbd.size)
       obtain⟨pb,hpb⟩:=Ae t1.heap.size
       have pp:t5.ownsRow wr.heap.size 89 11 (.slice (some ⟨pb,0,none⟩) [sp].length 1) [sp].length (BZ [sp]):=by rw[<-hpb];exact Au p0 hbd.size
       rw[hpb]
       refine hK.out _ _ hbd' (fun _=>?_)
       clear hK KK ht5 p0
       try simp only[Act.put,BP,BN,BK,BQ,BS,BM]
       have rr':=Ah rr bn
       have hpr:pb≠rb:=by have:=(rr.lt rb rfl).2;omega
       clear rr
       have rr:=rr'
       clear rr'
       clear hbd bn hpb
       have hbd:=hbd'
       clear hbd'
       refine wpAnyH_ready (rs:=[4]) (by kernel_rfl) (by simp) ?_
       obtain⟨r1,rc1,t6,hrun,o1,hg,hg'⟩:=GX t5 wr.heap.size rb 0 [] rr ⟨g4,0,none⟩ at' c4 (bd.xs.take at') HTKL.out.symm (HTK.out t5 hbd) (by rw[HTKL.out];simp;omega) hbd.size
       obtain⟨z1,hz1⟩:=Ae ([]++bd.xs.take at')
       rw[hz1]at hrun o1
       have hzl1:z1.length=at':=by rw[<-hz1,List.nil_append];exact HTKL.out
       have HZ1:=hxy hzl1
       have hbd':Below wr.heap.size wr t6:=hbd.trans ((Below.refl _ _).grown hg hbd.size (by intro q hq;have e:=Option.some.inj hq;have:=Ba rr (q:=rb) rfl;omega))
       refine BI (.tmp 78) (.tmp 81) rfl (by kernel_rfl) rfl rfl rfl hrun hbd' (fun _=>?_)
       try simp only[Act.put,BP,BN,BK,BQ,BS,BM]
       have pp':=DI pp hg (fun q hq e=>hpr ((Option.some.inj hq).trans (Option.some.inj e).symm))
       have hpr':pb≠r1:=by have:=(pp.lt pb rfl).2;omega
       clear pp hpr
       have pp:=pp'
       have hpr:=hpr'
       clear pp' hpr'
       clear hrun hz1 hzl1 hg hg' rr hbd
       have hbd:=hbd'
       have rr:=o1
       clear hbd' o1
       refine wpAnyH_ready (rs:=[7]) (by kernel_rfl) (by simp) ?_
       have hz1l:=HZ1.out
       obtain⟨r2,rc2,t7,hrun,o2,hg,hg'⟩:=Dn t6 wr.heap.size r1 rc1 z1 rr _ pb 1 [sp] pp (by simp;omega) hbd.size
       obtain⟨z2,hz2⟩:=Ae (z1++[sp])
       rw[hz2]at hrun o2
       have hbd':Below wr.heap.size wr t7:=hbd.trans ((Below.refl _ _).grown hg hbd.size (by intro q hq;have e:=Option.some.inj hq;have:=Ba rr (q:=r1) rfl;omega))
       refine BI (.tmp 82) (.tmp 84) rfl (by kernel_rfl) rfl rfl rfl hrun hbd' (fun _=>?_)
       try simp only[Act.put,BP,BN,BK,BQ,BS,BM]
       refine AB 8 rfl ?_
       refine wpAnyH_done (by kernel_rfl) ?_ _
       have hz2l:z2.length=at'+1:=by rw[<-hz2];simp;omega
       have hr2:wr.heap.size<=r2:=Ba o2 (q:=r2) rfl
       have RES:Hid (z2.length<=10000/\g≠r2/\(∀b∈ps,b.g≠r2)/\t7.ownsRow w.heap.size 89 11 (Vs r2 z2.length rc2) z2.length (BZ z2)/\t7.ownsRow w.heap.size 89 11 (Vs g zs.length gc) zs.length (BZ zs)/\QX G w p ao n cap pg pc ps t7):=⟨by omega,by have:=(R8.out.lt g rfl).2;omega,fun b hb=>by have:=X8.out.Q.pw.lt b hb;omega,Au o2 hyw,Ah R8.out hbd',X8.out.Q.below hbd'⟩
       clear hrun hz2 hz2l hz1l hg hg' o2 hbd hbd' rr pp v0 v1 v2 v3 v4 v5 v6 v7 v8 v9 v10
       go_wp2_with fail
       go_meet
       exact⟨r2,rc2,z2,rfl,RES.out.1,RES.out.2.1,RES.out.2.2.1,RES.out.2.2.2.1,RES.out.2.2.2.2.1,RES.out.2.2.2.2.2⟩
     ·skip
      go_simp
      obtain⟨t8,ht8,bn,p0⟩:∃y,t0.alloc (.cells #[Vi sp.k,Vi sp.op,Vi sp.d,Vi sp.a,Vi sp.b,Vi sp.imm,Vi sp.h,Vi sp.cond,Vi sp.thn,Vi sp.els,Vi sp.proc] 89)=y/\Below t0.heap.size t0 y/\y.ownsRow t0.heap.size 89 11 (.slice (some ⟨t0.heap.size,0,none⟩) [sp].length 1) [sp].length (BZ [sp]):=⟨_,rfl,Ak,by rw[ED];exact World.ownsRow_lit t0 (CV sp).toArray 1 jG (by unfold maxLen;omega) rfl⟩
      rw[ht8]
      have hbd':=hbd.trans (bn.mono hbd.size)
      obtain⟨pb,hpb⟩:=Ae t0.heap.size
      have pp:t8.ownsRow wr.heap.size 89 11 (.slice (some ⟨pb,0,none⟩) [sp].length 1) [sp].length (BZ [sp]):=by rw[<-hpb];exact Au p0 hbd.size
      rw[hpb]
      refine hK.out _ _ hbd' (fun _=>?_)
      clear hK KK ht8 p0
      try simp only[Act.put,BP,BN,BK,BQ,BS,BM]
      clear hbd bn hpb
      have hbd:=hbd'
      clear hbd'
      refine AO 0 rfl (fun KK hK=>?_)
      go_simp
      obtain⟨t9,ht9,bn,r0⟩:∃y,t8.alloc (.cells #[] 89)=y/\Below t8.heap.size t8 y/\y.ownsRow t8.heap.size 89 11 (Vs t8.heap.size ([]:List SV).length 0) ([]:List SV).length (BZ []):=⟨_,rfl,Ak,World.ownsRow_lit t8 #[] 0 jG (by unfold maxLen;omega) rfl⟩
      rw[ht9]
      have hbd':=hbd.trans (bn.mono hbd.size)
      have rr:=Au r0 hbd.size
      obtain⟨rb,hrb⟩:=Ae t8.heap.size
      rw[hrb]at rr⊢
      refine hK.out _ _ hbd' (fun _=>?_)
      clear hK KK ht9 r0
      try simp only[Act.put,BP,BN,BK,BQ,BS,BM]
      have pp':=Ah pp bn
      have hpr:pb≠rb:=by have:=(pp.lt pb rfl).2;omega
      clear pp
      have pp:=pp'
      clear pp'
      clear hbd bn hrb
      have hbd:=hbd'
      clear hbd'
      refine wpAnyH_ready (rs:=[4]) (by kernel_rfl) (by simp) ?_
      obtain⟨r1,rc1,t10,hrun,o1,hg,hg'⟩:=GX t9 wr.heap.size rb 0 [] rr ⟨g4,0,none⟩ at' c4 (bd.xs.take at') HTKL.out.symm (HTK.out t9 hbd) (by rw[HTKL.out];simp;omega) hbd.size
      obtain⟨z1,hz1⟩:=Ae ([]++bd.xs.take at')
      rw[hz1]at hrun o1
      have hzl1:z1.length=at':=by rw[<-hz1,List.nil_append];exact HTKL.out
      have HZ1:=hxy hzl1
      have hbd':Below wr.heap.size wr t10:=hbd.trans ((Below.refl _ _).grown hg hbd.size (by intro q hq;have e:=Option.some.inj hq;have:=Ba rr (q:=rb) rfl;omega))
      refine BI (.tmp 78) (.tmp 81) rfl (by kernel_rfl) rfl rfl rfl hrun hbd' (fun _=>?_)
      try simp only[Act.put,BP,BN,BK,BQ,BS,BM]
      have pp':=DI pp hg (fun q hq e=>hpr ((Option.some.inj hq).trans (Option.some.inj e).symm))
      have hpr':pb≠r1:=by have:=(pp.lt pb rfl).2;omega
      clear pp hpr
      have pp:=pp'
      have hpr:=hpr'
      clear pp' hpr'
      clear hrun hz1 hzl1 hg hg' rr hbd
      have hbd:=hbd'
      have rr:=o1
      clear hbd' o1
      refine wpAnyH_ready (rs:=[7]) (by kernel_rfl) (by simp) ?_
      have hz1l:=HZ1.out
      obtain⟨r2,rc2,t11,hrun,o2,hg,hg'⟩:=Dn t10 wr.heap.size r1 rc1 z1 rr _ pb 1 [sp] pp (by simp;omega) hbd.size
      obtain⟨z2,hz2⟩:=Ae (z1++[sp])
      rw[hz2]at hrun o2
      have hbd':Below wr.heap.size wr t11:=hbd.trans ((Below.refl _ _).grown hg hbd.size (by intro q hq;have e:=Option.some.inj hq;have:=Ba rr (q:=r1) rfl;omega))
      refine BI (.tmp 82) (.tmp 84) rfl (by kernel_rfl) rfl rfl rfl hrun hbd' (fun _=>?_)
      try simp only[Act.put,BP,BN,BK,BQ,BS,BM]
      refine AB 8 rfl ?_
      refine wpAnyH_done (by kernel_rfl) ?_ _
      have hz2l:z2.length=at'+1:=by rw[<-hz2];simp;omega
      have hr2:wr.heap.size<=r2:=Ba o2 (q:=r2) rfl
      have RES:Hid (z2.length<=10000/\g≠r2/\(∀b∈ps,b.g≠r2)/\t11.ownsRow w.heap.size 89 11 (Vs r2 z2.length rc2) z2.length (BZ z2)/\t11.ownsRow w.heap.size 89 11 (Vs g zs.length gc) zs.length (BZ zs)/\QX G w p ao n cap pg pc ps t11):=⟨by omega,by have:=(R8.out.lt g rfl).2;omega,fun b hb=>by have:=X8.out.Q.pw.lt b hb;omega,Au o2 hyw,Ah R8.out hbd',X8.out.Q.below hbd'⟩
      clear hrun hz2 hz2l hz1l hg hg' o2 hbd hbd' rr pp v0 v1 v2 v3 v4 v5 v6 v7 v8 v9 v10
      go_wp2_with fail
      go_meet
      exact⟨r2,rc2,z2,rfl,RES.out.1,RES.out.2.1,RES.out.2.2.1,RES.out.2.2.2.1,RES.out.2.2.2.2.1,RES.out.2.2.2.2.2⟩
    case rest=>
    obtain⟨g',c',ys,rfl,hyl,hgg,hng,r9,rn9,q9⟩:=hcut
    generalize wc=y10 at r9 rn9 q9⊢
    obtain⟨g2,c2,v2,hrun,o2,hg,hg'⟩:=Dn y10 w.heap.size g' c' ys r9 _ g gc zs rn9 (by omega) q9.F.size
    obtain⟨zz,hzz⟩:=Ae (ys++zs)
    rw[hzz]at hrun o2
    have hzzl:zz.length<=100000:=by rw[<-hzz,List.length_append];omega
    have Q10:=hxy (q9.grw r9 hg hng)
    have R10:=hxy o2
    have c8:v2.cell? (Va pg pi)=some (Vs bd.g bd.xs.length bd.c):=by
     rw[Q10.out.row.cellAt pi (by omega),List.getElem?_map,HBD.out.1]
     rfl
    have f8:∀i,v2.frozen? (Va pg i)=false:=fun i=>Q10.out.row.frozenAt i
    have l8:=(Q10.out.row.lt pg rfl).2
    have hpl2:(pi:Int)<(ps.length:Int):=by omega
    clear hg hg' o2 hzz r9 rn9 q9 hgg hng X8 R8
    go_wp2_with(first|(at_builtin;refine Bg rfl _ _ 36 rfl rfl rfl hrun ?_))
    go_ret
    exact⟨pg,pc,ps.set pi ⟨g2,c2,zz⟩,by simp,by simp;omega,by simp;omega,Q10.out.setP (i:=pi) (b:=⟨g2,c2,zz⟩) R10.out hzzl⟩
  by_cases k5:kk=5
  ·subst k5
   go_wp2_with fail
   go_loopw [7](fun bv wr=>∃(g gc:Nat)(zs:List SV),bv=Vs g zs.length gc/\zs.length<=10000/\Hid (∀b∈ps,b.g≠g)/\QX G w p ao n cap pg pc ps wr/\wr.ownsRow w.heap.size 89 11 (Vs g zs.length gc) zs.length (BZ zs))(fun bv _=>502-YU bv)
   case atStart=>exact⟨g4,c4,bd.xs,rfl,by omega,N4,X6.out.Q,X6.out.B⟩
   case round=>
    clear X6
    obtain⟨g,gc,zs,rfl,hzl,HN,q8,r8⟩:=hrel
    have Q8:=hxy q8
    have R8:=hxy r8
    clear q8 r8
    go_wp2_with fail
    refine(Aa p ao n cap 2 _ (by omega) Q8.out.K).mono ?_
    rintro e y8⟨x,rfl,x0,x1,f,k⟩
    have Q9:=hxy (Q8.out.fw f k)
    have R9:=hxy (DX R8.out f Q8.out.lp)
    clear f k Q8 R8
    by_cases hlt:(zs.length:Int)<500+x
    ·obtain⟨g2,c2,v2,ys,hrun,hyl,q10,r10,n10,_,_⟩:=LV y8 g gc zs ⟨1,1,0,0,0,0,0,0,0,0,0⟩ Q9.out R9.out HN.out (by omega)
     unfold CV at hrun
     have RES:Hid (ys.length=zs.length+1/\(∀b∈ps,b.g≠g2)/\QX G w p ao n cap pg pc ps v2/\v2.ownsRow w.heap.size 89 11 (Vs g2 ys.length c2) ys.length (BZ ys)):=⟨hyl,n10,q10,r10⟩
     clear hyl q10 r10 n10 Q9 R9
     go_wp2_with(first|(at_builtin;refine Bg rfl _ _ 36 rfl rfl rfl hrun ?_))
     clear hrun
     go_roundw
     case rel=>exact⟨g2,c2,ys,rfl,by have:=RES.out.1;omega,RES.out.2.1,RES.out.2.2.1,RES.out.2.2.2⟩
     case measure=>have:=RES.out.1;simp[YU];omega
    ·have c8:y8.cell? (Va pg pi)=some (Vs bd.g bd.xs.length bd.c):=by
      rw[Q9.out.row.cellAt pi (by omega),List.getElem?_map,HBD.out.1]
      rfl
     have f8:∀i,y8.frozen? (Va pg i)=false:=fun i=>Q9.out.row.frozenAt i
     have l8:=(Q9.out.row.lt pg rfl).2
     go_wp2_with fail
     go_ret
     exact⟨pg,pc,ps.set pi ⟨g,gc,zs⟩,by simp,by simp;omega,by simp;omega,Q9.out.setP (i:=pi) (b:=⟨g,gc,zs⟩) R9.out (by show zs.length<=100000;omega)⟩
  by_cases k6:kk=6
  ·subst k6
   go_upto_region 32 with fail
   obtain⟨y7,hy7,b7,o7⟩:∃y,y6.alloc (.cells #[] 89)=y/\Below y6.heap.size y6 y/\y.ownsRow y6.heap.size 89 11 (Vs y6.heap.size ([]:List SV).length 0) ([]:List SV).length (BZ []):=⟨_,rfl,Ak,World.ownsRow_lit y6 #[] 0 jG (by unfold maxLen;omega) rfl⟩
   try rw[hy7]
   have Q7:=hxy (X6.out.Q.below b7)
   have R7:=hxy (Au o7 X6.out.Q.F.size)
   have N7:Hid (∀b∈ps,b.g≠y6.heap.size):=fun b hb=>by have:=X6.out.Q.pw.lt b hb;omega
   obtain⟨lb,hlb⟩:=Ae y6.heap.size
   rw[hlb]at R7 N7
   try rw[hlb]
   clear hy7 b7 o7 hlb X6
   go_wp2_with fail
   go_loopw [12,13](fun bv iv wr=>∃(g gc:Nat)(zs:List SV),bv=Vs g zs.length gc/\iv=Vi (zs.length:Int)/\zs.length<=400/\Hid (∀b∈ps,b.g≠g)/\QX G w p ao n cap pg pc ps wr/\wr.ownsRow w.heap.size 89 11 (Vs g zs.length gc) zs.length (BZ zs))(fun _ iv _=>400-(intOf iv).toNat)
   case atStart=>exact⟨lb,0,[],rfl,rfl,by simp,N7,Q7.out,R7.out⟩
   case round=>
    clear Q7 R7 N7
    obtain⟨g,gc,zs,rfl,rfl,hzl,HN,q8,r8⟩:=hrel
    have Q8:=hxy q8
    have R8:=hxy r8
    clear q8 r8
    by_cases hlt:zs.length<400
    ·have hlt':(zs.length:Int)<400:=by omega
     obtain⟨g2,c2,v2,ys,hrun,hyl,q10,r10,n10,_,_⟩:=LV wr g gc zs ⟨1,1,0,0,0,0,0,0,0,0,0⟩ Q8.out R8.out HN.out (by omega)
     unfold CV at hrun
     have RES:Hid (ys.length=zs.length+1/\(∀b∈ps,b.g≠g2)/\QX G w p ao n cap pg pc ps v2/\v2.ownsRow w.heap.size 89 11 (Vs g2 ys.length c2) ys.length (BZ ys)):=⟨hyl,n10,q10,r10⟩
     clear hyl q10 r10 n10 Q8 R8
     go_wp2_with(first|(at_builtin;refine Bg rfl _ _ 36 rfl rfl rfl hrun ?_))
     clear hrun
     go_roundw
     case rel=>exact⟨g2,c2,ys,rfl,by rw[RES.out.1];simp,by have:=RES.out.1;omega,RES.out.2.1,RES.out.2.2.1,RES.out.2.2.2⟩
     case measure=>simp[intOf];omega
    have hlt':¬(zs.length:Int)<400:=by omega
    obtain⟨y9,hy9,b9,c9⟩:∃y,wr.alloc (.cells #[Vs g zs.length gc] 38)=y/\Below wr.heap.size wr y/\(∀j u,[Vs g zs.length gc][j]?=some u->y.cell? ((⟨wr.heap.size,0,none⟩:Addr).add j)=some u):=⟨_,rfl,Ak,FN wr _ _⟩
    have Q9:=Q8.out.below b9
    obtain⟨iP,gP,gP0,gP1,gP2⟩:=info_parts Sz
    obtain⟨v',y10,hrun,o10,hg,hnil,_⟩:=run_append_own_at (P:=Tryz.prog) y9 w.heap.size 27 27 38 iP _ 1 24 Tryz.underlying27 gP gP0 gP1 gP2 rfl (by decide) _ _ _ Q9.row ⟨wr.heap.size,0,none⟩ 1 1 [Vs g zs.length gc] rfl c9 (by simp[Value.oneCell']) (by unfold maxLen;omega) (by omega) Q9.F.size
    have hn:v'≠ .slice none 0 0:=fun e=>by
     have:=(hnil.1 e).1
     simp at this
    obtain⟨pg2,pc2,rfl⟩:=Oz o10 hn
    have Q10:=Q9.add (b:=⟨g,gc,zs⟩) hg o10 (Ah R8.out b9) (by show zs.length<=100000;omega)
    obtain⟨ps2,hps2⟩:=Ae (ps++[⟨g,gc,zs⟩])
    rw[hps2]at Q10
    have hl5:ps2.length=ps.length+1:=by rw[<-hps2];simp
    have HL5:=hxy hl5
    rw[<-hl5]at hrun
    have Q10:=hxy Q10
    clear gP gP0 gP1 gP2 o10 hg hnil hn Q9 c9 Q8 R8 hps2 b9 hl5
    go_upto_region 39 with(first|(at_builtin;refine Bg rfl _ _ 27 rfl rfl rfl hrun ?_))
    clear hrun hy9
    obtain⟨y11,hy11,b11,o11⟩:∃y,y10.alloc (.cells #[] 89)=y/\Below y10.heap.size y10 y/\y.ownsRow y10.heap.size 89 11 (Vs y10.heap.size ([]:List SV).length 0) ([]:List SV).length (BZ []):=⟨_,rfl,Ak,World.ownsRow_lit y10 #[] 0 jG (by unfold maxLen;omega) rfl⟩
    try rw[hy11]
    have Q11:=hxy (Q10.out.below b11)
    have R11:=hxy (Au o11 Q10.out.F.size)
    have N11:Hid (∀b∈ps2,b.g≠y10.heap.size):=fun b hb=>by have:=Q10.out.pw.lt b hb;omega
    obtain⟨lb2,hlb2⟩:=Ae y10.heap.size
    rw[hlb2]at R11 N11
    try rw[hlb2]
    clear hy11 b11 o11 hlb2 Q10
    go_wp2_with fail
    go_loopw [15,16](fun bv iv wr=>∃(g gc:Nat)(zs:List SV),bv=Vs g zs.length gc/\iv=Vi (zs.length:Int)/\zs.length<=6/\Hid (∀b∈ps2,b.g≠g)/\QX G w p ao n cap pg2 pc2 ps2 wr/\wr.ownsRow w.heap.size 89 11 (Vs g zs.length gc) zs.length (BZ zs))(fun _ iv _=>6-(intOf iv).toNat)
    case atStart=>exact⟨lb2,0,[],rfl,rfl,by simp,N11,Q11.out,R11.out⟩
    case round=>
     clear Q11 R11 N11
     obtain⟨g,gc,zs,rfl,rfl,hzl,HN,q8,r8⟩:=hrel
     have Q8:=hxy q8
     have R8:=hxy r8
     clear q8 r8
     go_wp2_with fail
     refine(Aa p ao n cap 2 _ (by omega) Q8.out.K).mono ?_
     rintro e y12⟨x,rfl,x0,x1,f,k⟩
     have Q9:=hxy (Q8.out.fw f k)
     have R9:=hxy (DX R8.out f Q8.out.lp)
     clear f k Q8 R8
     by_cases hlt:(zs.length:Int)<4+x
     ·obtain⟨g2,c2,v2,ys,hrun,hyl,q10,r10,n10,_,_⟩:=LV y12 g gc zs ⟨4,0,0,0,0,0,0,0,0,0,(ps.length:Int)⟩ Q9.out R9.out HN.out (by omega)
      unfold CV at hrun
      have RES:Hid (ys.length=zs.length+1/\(∀b∈ps2,b.g≠g2)/\QX G w p ao n cap pg2 pc2 ps2 v2/\v2.ownsRow w.heap.size 89 11 (Vs g2 ys.length c2) ys.length (BZ ys)):=⟨hyl,n10,q10,r10⟩
      clear hyl q10 r10 n10 Q9 R9
      go_wp2_with(first|(at_builtin;refine Bg rfl _ _ 36 rfl rfl rfl hrun ?_))
      clear hrun
      go_roundw
      case rel=>exact⟨g2,c2,ys,rfl,by rw[RES.out.1];simp,by have:=RES.out.1;omega,RES.out.2.1,RES.out.2.2.1,RES.out.2.2.2⟩
      case measure=>simp[intOf];omega
     ·have hl5:=HL5.out
      have hp0:0<ps2.length:=by omega
      have c8:y12.cell? (Va pg2 0)=some (ps2[0]).v:=by
       rw[Q9.out.row.cellAt 0 (by omega),List.getElem?_map,List.getElem?_eq_getElem hp0]
       rfl
      obtain⟨bv,hbv⟩:=Ae ((ps2[0]).v)
      rw[hbv]at c8
      have f8:∀i,y12.frozen? (Va pg2 i)=false:=fun i=>Q9.out.row.frozenAt i
      have l8:=(Q9.out.row.lt pg2 rfl).2
      have hp0':(0:Int)<(ps2.length:Int):=by omega
      clear hbv
      go_wp2_with fail
      go_ret
      exact⟨pg2,pc2,ps2.set 0 ⟨g,gc,zs⟩,by simp;try omega,by simp;omega,by simp;omega,Q9.out.setP (i:=0) (b:=⟨g,gc,zs⟩) R9.out (by show zs.length<=100000;omega)⟩
  ·go_wp2_with fail
   go_meet
   exact⟨rfl,rfl,rfl,_,X6.out⟩
 case rest=>
 obtain⟨rfl,rfl,rfl,s,x7⟩:=hcut
 generalize wc=y7 at x7⊢
 have X7:=hxy x7
 clear x7 X6
 go_upto_region 45 with fail
 go_cut [7](fun s7 wx=>∃(g c:Nat)(zs:List SV),s7=Vs g zs.length c/\zs.length<=100000/\wx.ownsRow w.heap.size 89 11 (Vs g zs.length c) zs.length (BZ zs)/\QX G w p ao n cap pg pc ps wx)
 case first=>
  have hbc:=IE (X7.out.Q.pw bd HBD.out.2).1
  have hcc:=IE X7.out.B
  have hpl2:(pi:Int)<(ps.length:Int):=by omega
  have j0:∀w',Below y7.heap.size y7 w'->w'.cell? (Va pg pi)=some (Vs bd.g bd.xs.length bd.c):=fun w' h=>by
   rw[(X7.out.Q.below h).row.cellAt pi (by omega),List.getElem?_map,HBD.out.1]
   rfl
  have v0:∀w',Below y7.heap.size y7 w'->w'.cell? (Va nq 0)=some (Vi s.k):=fun w' h=>(X7.out.below h).P.cells.1
  have v1:∀w',Below y7.heap.size y7 w'->w'.cell? (Va nq 1)=some (Vi s.op):=fun w' h=>(X7.out.below h).P.cells.2.1
  have v2:∀w',Below y7.heap.size y7 w'->w'.cell? (Va nq 2)=some (Vi s.d):=fun w' h=>(X7.out.below h).P.cells.2.2.1
  have v3:∀w',Below y7.heap.size y7 w'->w'.cell? (Va nq 3)=some (Vi s.a):=fun w' h=>(X7.out.below h).P.cells.2.2.2.1
  have v4:∀w',Below y7.heap.size y7 w'->w'.cell? (Va nq 4)=some (Vi s.b):=fun w' h=>(X7.out.below h).P.cells.2.2.2.2.1
  have v5:∀w',Below y7.heap.size y7 w'->w'.cell? (Va nq 5)=some (Vi s.imm):=fun w' h=>(X7.out.below h).P.cells.2.2.2.2.2.1
  have v6:∀w',Below y7.heap.size y7 w'->w'.cell? (Va nq 6)=some (Vi s.h):=fun w' h=>(X7.out.below h).P.cells.2.2.2.2.2.2.1
  have v7:∀w',Below y7.heap.size y7 w'->w'.cell? (Va nq 7)=some (Vi s.cond):=fun w' h=>(X7.out.below h).P.cells.2.2.2.2.2.2.2.1
  have v8:∀w',Below y7.heap.size y7 w'->w'.cell? (Va nq 8)=some (Vi s.thn):=fun w' h=>(X7.out.below h).P.cells.2.2.2.2.2.2.2.2.1
  have v9:∀w',Below y7.heap.size y7 w'->w'.cell? (Va nq 9)=some (Vi s.els):=fun w' h=>(X7.out.below h).P.cells.2.2.2.2.2.2.2.2.2.1
  have v10:∀w',Below y7.heap.size y7 w'->w'.cell? (Va nq 10)=some (Vi s.proc):=fun w' h=>(X7.out.below h).P.cells.2.2.2.2.2.2.2.2.2.2.1
  have ha1:(at':Int)<=(c4:Int):=by omega
  have ha2:(at':Int)<=(bd.xs.length:Int):=by omega
  obtain⟨ad,had,HAD⟩:∃ad:Addr,(if bd.c=at' then some (⟨bd.g,0,none⟩:Addr)else some (⟨bd.g,at'*11,none⟩:Addr))=some ad/\Hid (∀(t:World),Below y7.heap.size y7 t->∀j u,(BZ (bd.xs.drop at'))[j]?=some u->t.cell? (ad.add j)=some u):=by
   by_cases e:bd.c=at'
   ·refine⟨_,if_pos e,fun t ht j u hj=>?_⟩
    rw[List.drop_eq_nil_of_le (by omega)]at hj
    simp[BZ]at hj
   ·refine⟨_,if_neg e,fun t ht j u hj=>?_⟩
    have r:=((X7.out.below ht).Q.pw bd HBD.out.2).1
    have hj2:j<(bd.xs.length-at')*11:=by
     have:=(List.getElem?_eq_some_iff.1 hj).1
     rw[IB,List.length_drop]at this
     exact this
    rw[Addr.add_lit,r.cellAt (at'*11+j) (by omega)]
    rw[Uw,List.getElem?_drop]at hj
    exact hj
  have HTK:Hid (∀(t:World),Below y7.heap.size y7 t->∀j u,(BZ (bd.xs.take at'))[j]?=some u->t.cell? ((⟨g4,0,none⟩:Addr).add j)=some u):=fun t ht j u hj=>by
   have r:=(X7.out.below ht).B
   have hj2:j<at'*11:=by
    have:=(List.getElem?_eq_some_iff.1 hj).1
    rw[IB,List.length_take]at this
    omega
   rw[Addr.add_lit,Nat.zero_add,r.cellAt j (by omega)]
   rw[QW,List.getElem?_take,if_pos hj2]at hj
   exact hj
  refine wp_region_held_drew (S:=fun w'=>Below y7.heap.size y7 w') (by kernel_rfl) (Below.refl _ _).drew (fun _=>?_)
  refine AB 1 rfl ?_
  refine AB 2 rfl ?_
  refine Ad 3 (Vs g4 at' c4) rfl ?kay ?kar
  case kay=>(intro w hSw;(try dsimp only at hSw);go_simp;first|done|(rw[if_pos (by omega)];simp)|(split<;>simp_all))
  try simp only[Act.put,BP,BN,BK,BQ,BS,BM]
  refine AB 5 rfl ?_
  refine AB 8 rfl ?_
  refine AB 9 rfl ?_
  refine AB 10 rfl ?_
  refine AB 11 rfl ?_
  refine AB 12 rfl ?_
  refine AB 13 rfl ?_
  refine Ad 14 (.slice (some ad) (bd.xs.length-at') (bd.c-at')) rfl ?kby ?kbr
  case kby=>(intro w hSw;(try dsimp only at hSw);go_simp;first|done|(rw[<-had];first|done|(rw[if_pos (by omega)];simp)))
  try simp only[Act.put,BP,BN,BK,BQ,BS,BM]
  have hbd:Below y7.heap.size y7 y7.drew:=(Below.refl _ _).drew
  generalize y7.drew=t0 at hbd⊢
  clear had
  have hyw:=X7.out.Q.F.size
  have TK:(bd.xs.take at').length=at':=by rw[List.length_take];omega
  have HTKL:=hxy TK
  clear TK
  refine wpAnyH_ready (rs:=[0,6]) (by kernel_rfl) (by simp) ?_
  refine AllReadyH.cons rfl (fun KK hK=>?_) (AllReadyH.cons rfl (fun KK hK=>?_) AllReadyH.nil)
  ·skip
   go_simp
   obtain⟨t1,ht1,bn,r0⟩:∃y,t0.alloc (.cells #[] 89)=y/\Below t0.heap.size t0 y/\y.ownsRow t0.heap.size 89 11 (Vs t0.heap.size ([]:List SV).length 0) ([]:List SV).length (BZ []):=⟨_,rfl,Ak,World.ownsRow_lit t0 #[] 0 jG (by unfold maxLen;omega) rfl⟩
   rw[ht1]
   have hbd':=hbd.trans (bn.mono hbd.size)
   have rr:=Au r0 hbd.size
   obtain⟨rb,hrb⟩:=Ae t0.heap.size
   rw[hrb]at rr⊢
   refine hK.out _ _ hbd' (fun _=>?_)
   clear hK KK ht1 r0
   try simp only[Act.put,BP,BN,BK,BQ,BS,BM]
   clear hbd bn hrb
   have hbd:=hbd'
   clear hbd'
   refine wpAnyH_ready (rs:=[4,6]) (by kernel_rfl) (by simp) ?_
   obtain⟨r1,rc1,t2,hrun,o1,hg,hg'⟩:=GX t1 y7.heap.size rb 0 [] rr ⟨g4,0,none⟩ at' c4 (bd.xs.take at') HTKL.out.symm (HTK.out t1 hbd) (by rw[HTKL.out];simp;omega) hbd.size
   obtain⟨z1,hz1⟩:=Ae ([]++bd.xs.take at')
   rw[hz1]at hrun o1
   have hzl1:z1.length=at':=by rw[<-hz1,List.nil_append];exact HTKL.out
   have HZ1:=hxy hzl1
   have hbd':Below y7.heap.size y7 t2:=hbd.trans ((Below.refl _ _).grown hg hbd.size (by intro q hq;have e:=Option.some.inj hq;have:=Ba rr (q:=rb) rfl;omega))
   refine Kh (.tmp 150) (.tmp 153) rfl (by kernel_rfl) rfl rfl rfl hrun hbd' (fun _=>?_) (AllReadyH.cons rfl (fun KK hK=>?_) AllReadyH.nil)
   ·skip
    try simp only[Act.put,BP,BN,BK,BQ,BS,BM]
    clear hrun hz1 hzl1 hg hg' rr hbd
    have hbd:=hbd'
    have rr:=o1
    clear hbd' o1
    refine AO 6 rfl (fun KK hK=>?_)
    go_simp
    obtain⟨t3,ht3,bn,p0⟩:∃y,t2.alloc (.cells #[Vi s.k,Vi s.op,Vi s.d,Vi s.a,Vi s.b,Vi s.imm,Vi s.h,Vi s.cond,Vi s.thn,Vi s.els,Vi s.proc] 89)=y/\Below t2.heap.size t2 y/\y.ownsRow t2.heap.size 89 11 (.slice (some ⟨t2.heap.size,0,none⟩) [s].length 1) [s].length (BZ [s]):=⟨_,rfl,Ak,by rw[ED];exact World.ownsRow_lit t2 (CV s).toArray 1 jG (by unfold maxLen;omega) rfl⟩
    rw[ht3]
    have hbd':=hbd.trans (bn.mono hbd.size)
    obtain⟨pb,hpb⟩:=Ae t2.heap.size
    have pp:t3.ownsRow y7.heap.size 89 11 (.slice (some ⟨pb,0,none⟩) [s].length 1) [s].length (BZ [s]):=by rw[<-hpb];exact Au p0 hbd.size
    rw[hpb]
    refine hK.out _ _ hbd' (fun _=>?_)
    clear hK KK ht3 p0
    try simp only[Act.put,BP,BN,BK,BQ,BS,BM]
    have rr':=Ah rr bn
    have hpr:pb≠r1:=by have:=(rr.lt r1 rfl).2;omega
    clear rr
    have rr:=rr'
    clear rr'
    clear hbd bn hpb
    have hbd:=hbd'
    clear hbd'
    refine wpAnyH_ready (rs:=[7]) (by kernel_rfl) (by simp) ?_
    have hz1l:=HZ1.out
    obtain⟨r2,rc2,t4,hrun,o2,hg,hg'⟩:=Dn t3 y7.heap.size r1 rc1 z1 rr _ pb 1 [s] pp (by simp;omega) hbd.size
    obtain⟨z2,hz2⟩:=Ae (z1++[s])
    rw[hz2]at hrun o2
    have hz2l:z2.length=at'+1:=by rw[<-hz2];simp;omega
    have hbd':Below y7.heap.size y7 t4:=hbd.trans ((Below.refl _ _).grown hg hbd.size (by intro q hq;have e:=Option.some.inj hq;have:=Ba rr (q:=r1) rfl;omega))
    refine BI (.tmp 154) (.tmp 156) rfl (by kernel_rfl) rfl rfl rfl hrun hbd' (fun _=>?_)
    try simp only[Act.put,BP,BN,BK,BQ,BS,BM]
    obtain⟨r3,rc3,t4a,hrun3,o3,hg3,hg3'⟩:=GX t4 y7.heap.size r2 rc2 z2 o2 ad (bd.xs.length-at') (bd.c-at') (bd.xs.drop at') (by rw[List.length_drop]) (HAD.out t4 hbd') (by rw[List.length_drop];omega) hbd'.size
    obtain⟨z3,hz3⟩:=Ae (z2++bd.xs.drop at')
    rw[hz3]at hrun3 o3
    have hz3l:z3.length<=100000:=by rw[<-hz3,List.length_append,List.length_drop];omega
    have hbd3:Below y7.heap.size y7 t4a:=hbd'.trans ((Below.refl _ _).grown hg3 hbd'.size (by intro q hq;have e:=Option.some.inj hq;have:=Ba o2 (q:=r2) rfl;omega))
    refine wpAnyH_ready (rs:=[15]) (by kernel_rfl) (by simp) ?_
    refine BI (.tmp 157) (.tmp 164) rfl (by kernel_rfl) rfl rfl rfl hrun3 hbd3 (fun _=>?_)
    try simp only[Act.put,BP,BN,BK,BQ,BS,BM]
    refine AB 16 rfl ?_
    refine wpAnyH_done (by kernel_rfl) ?_ _
    have RES:Hid (z3.length<=100000/\t4a.ownsRow w.heap.size 89 11 (Vs r3 z3.length rc3) z3.length (BZ z3)/\QX G w p ao n cap pg pc ps t4a):=⟨hz3l,Au o3 hyw,X7.out.Q.below hbd3⟩
    clear hrun hrun3 hz2 hz3 hg hg' hg3 hg3' o2 o3 hbd hbd' hbd3 rr pp j0 v0 v1 v2 v3 v4 v5 v6 v7 v8 v9 v10
    go_wp2_with fail
    go_meet
    exact⟨r3,rc3,z3,rfl,RES.out.1,RES.out.2.1,RES.out.2.2⟩
   ·skip
    clear hrun hz1 hzl1 hg hg' o1 hbd' HZ1
    go_simp
    obtain⟨t5,ht5,bn,p0⟩:∃y,t1.alloc (.cells #[Vi s.k,Vi s.op,Vi s.d,Vi s.a,Vi s.b,Vi s.imm,Vi s.h,Vi s.cond,Vi s.thn,Vi s.els,Vi s.proc] 89)=y/\Below t1.heap.size t1 y/\y.ownsRow t1.heap.size 89 11 (.slice (some ⟨t1.heap.size,0,none⟩) [s].length 1) [s].length (BZ [s]):=⟨_,rfl,Ak,by rw[ED];exact World.ownsRow_lit t1 (CV s).toArray 1 jG (by unfold maxLen;omega) rfl⟩
    rw[ht5]
    have hbd':=hbd.trans (bn.mono hbd.size)
    obtain⟨pb,hpb⟩:=Ae t1.heap.size
    have pp:t5.ownsRow y7.heap.size 89 11 (.slice (some ⟨pb,0,none⟩) [s].length 1) [s].length (BZ [s]):=by rw[<-hpb];exact Au p0 hbd.size
    rw[hpb]
    refine hK.out _ _ hbd' (fun _=>?_)
    clear hK KK ht5 p0
    try simp only[Act.put,BP,BN,BK,BQ,BS,BM]
    have rr':=Ah rr bn
    have hpr:pb≠rb:=by have:=(rr.lt rb rfl).2;omega
    clear rr
    have rr:=rr'
    clear rr'
    clear hbd bn hpb
    have hbd:=hbd'
    clear hbd'
    refine wpAnyH_ready (rs:=[4]) (by kernel_rfl) (by simp) ?_
    obtain⟨r1,rc1,t6,hrun,o1,hg,hg'⟩:=GX t5 y7.heap.size rb 0 [] rr ⟨g4,0,none⟩ at' c4 (bd.xs.take at') HTKL.out.symm (HTK.out t5 hbd) (by rw[HTKL.out];simp;omega) hbd.size
    obtain⟨z1,hz1⟩:=Ae ([]++bd.xs.take at')
    rw[hz1]at hrun o1
    have hzl1:z1.length=at':=by rw[<-hz1,List.nil_append];exact HTKL.out
    have HZ1:=hxy hzl1
    have hbd':Below y7.heap.size y7 t6:=hbd.trans ((Below.refl _ _).grown hg hbd.size (by intro q hq;have e:=Option.some.inj hq;have:=Ba rr (q:=rb) rfl;omega))
    refine BI (.tmp 150) (.tmp 153) rfl (by kernel_rfl) rfl rfl rfl hrun hbd' (fun _=>?_)
    try simp only[Act.put,BP,BN,BK,BQ,BS,BM]
    have pp':=DI pp hg (fun q hq e=>hpr ((Option.some.inj hq).trans (Option.some.inj e).symm))
    have hpr':pb≠r1:=by have:=(pp.lt pb rfl).2;omega
    clear pp hpr
    have pp:=pp'
    have hpr:=hpr'
    clear pp' hpr'
    clear hrun hz1 hzl1 hg hg' rr hbd
    have hbd:=hbd'
    have rr:=o1
    clear hbd' o1
    refine wpAnyH_ready (rs:=[7]) (by kernel_rfl) (by simp) ?_
    have hz1l:=HZ1.out
    obtain⟨r2,rc2,t7,hrun,o2,hg,hg'⟩:=Dn t6 y7.heap.size r1 rc1 z1 rr _ pb 1 [s] pp (by simp;omega) hbd.size
    obtain⟨z2,hz2⟩:=Ae (z1++[s])
    rw[hz2]at hrun o2
    have hz2l:z2.length=at'+1:=by rw[<-hz2];simp;omega
    have hbd':Below y7.heap.size y7 t7:=hbd.trans ((Below.refl _ _).grown hg hbd.size (by intro q hq;have e:=Option.some.inj hq;have:=Ba rr (q:=r1) rfl;omega))
    refine BI (.tmp 154) (.tmp 156) rfl (by kernel_rfl) rfl rfl rfl hrun hbd' (fun _=>?_)
    try simp only[Act.put,BP,BN,BK,BQ,BS,BM]
    obtain⟨r3,rc3,t7a,hrun3,o3,hg3,hg3'⟩:=GX t7 y7.heap.size r2 rc2 z2 o2 ad (bd.xs.length-at') (bd.c-at') (bd.xs.drop at') (by rw[List.length_drop]) (HAD.out t7 hbd') (by rw[List.length_drop];omega) hbd'.size
    obtain⟨z3,hz3⟩:=Ae (z2++bd.xs.drop at')
    rw[hz3]at hrun3 o3
    have hz3l:z3.length<=100000:=by rw[<-hz3,List.length_append,List.length_drop];omega
    have hbd3:Below y7.heap.size y7 t7a:=hbd'.trans ((Below.refl _ _).grown hg3 hbd'.size (by intro q hq;have e:=Option.some.inj hq;have:=Ba o2 (q:=r2) rfl;omega))
    refine wpAnyH_ready (rs:=[15]) (by kernel_rfl) (by simp) ?_
    refine BI (.tmp 157) (.tmp 164) rfl (by kernel_rfl) rfl rfl rfl hrun3 hbd3 (fun _=>?_)
    try simp only[Act.put,BP,BN,BK,BQ,BS,BM]
    refine AB 16 rfl ?_
    refine wpAnyH_done (by kernel_rfl) ?_ _
    have RES:Hid (z3.length<=100000/\t7a.ownsRow w.heap.size 89 11 (Vs r3 z3.length rc3) z3.length (BZ z3)/\QX G w p ao n cap pg pc ps t7a):=⟨hz3l,Au o3 hyw,X7.out.Q.below hbd3⟩
    clear hrun hrun3 hz2 hz3 hg hg' hg3 hg3' o2 o3 hbd hbd' hbd3 rr pp j0 v0 v1 v2 v3 v4 v5 v6 v7 v8 v9 v10
    go_wp2_with fail
    go_meet
    exact⟨r3,rc3,z3,rfl,RES.out.1,RES.out.2.1,RES.out.2.2⟩
  ·skip
   go_simp
   obtain⟨t8,ht8,bn,p0⟩:∃y,t0.alloc (.cells #[Vi s.k,Vi s.op,Vi s.d,Vi s.a,Vi s.b,Vi s.imm,Vi s.h,Vi s.cond,Vi s.thn,Vi s.els,Vi s.proc] 89)=y/\Below t0.heap.size t0 y/\y.ownsRow t0.heap.size 89 11 (.slice (some ⟨t0.heap.size,0,none⟩) [s].length 1) [s].length (BZ [s]):=⟨_,rfl,Ak,by rw[ED];exact World.ownsRow_lit t0 (CV s).toArray 1 jG (by unfold maxLen;omega) rfl⟩
   rw[ht8]
   have hbd':=hbd.trans (bn.mono hbd.size)
   obtain⟨pb,hpb⟩:=Ae t0.heap.size
   have pp:t8.ownsRow y7.heap.size 89 11 (.slice (some ⟨pb,0,none⟩) [s].length 1) [s].length (BZ [s]):=by rw[<-hpb];exact Au p0 hbd.size
   rw[hpb]
   refine hK.out _ _ hbd' (fun _=>?_)
   clear hK KK ht8 p0
   try simp only[Act.put,BP,BN,BK,BQ,BS,BM]
   clear hbd bn hpb
   have hbd:=hbd'
   clear hbd'
   refine AO 0 rfl (fun KK hK=>?_)
   go_simp
   obtain⟨t9,ht9,bn,r0⟩:∃y,t8.alloc (.cells #[] 89)=y/\Below t8.heap.size t8 y/\y.ownsRow t8.heap.size 89 11 (Vs t8.heap.size ([]:List SV).length 0) ([]:List SV).length (BZ []):=⟨_,rfl,Ak,World.ownsRow_lit t8 #[] 0 jG (by unfold maxLen;omega) rfl⟩
   rw[ht9]
   have hbd':=hbd.trans (bn.mono hbd.size)
   have rr:=Au r0 hbd.size
   obtain⟨rb,hrb⟩:=Ae t8.heap.size
   rw[hrb]at rr⊢
   refine hK.out _ _ hbd' (fun _=>?_)
   clear hK KK ht9 r0
   try simp only[Act.put,BP,BN,BK,BQ,BS,BM]
   have pp':=Ah pp bn
   have hpr:pb≠rb:=by have:=(pp.lt pb rfl).2;omega
   clear pp
   have pp:=pp'
   clear pp'
   clear hbd bn hrb
   have hbd:=hbd'
   clear hbd'
   refine wpAnyH_ready (rs:=[4]) (by kernel_rfl) (by simp) ?_
   obtain⟨r1,rc1,t10,hrun,o1,hg,hg'⟩:=GX t9 y7.heap.size rb 0 [] rr ⟨g4,0,none⟩ at' c4 (bd.xs.take at') HTKL.out.symm (HTK.out t9 hbd) (by rw[HTKL.out];simp;omega) hbd.size
   obtain⟨z1,hz1⟩:=Ae ([]++bd.xs.take at')
   rw[hz1]at hrun o1
   have hzl1:z1.length=at':=by rw[<-hz1,List.nil_append];exact HTKL.out
   have HZ1:=hxy hzl1
   have hbd':Below y7.heap.size y7 t10:=hbd.trans ((Below.refl _ _).grown hg hbd.size (by intro q hq;have e:=Option.some.inj hq;have:=Ba rr (q:=rb) rfl;omega))
   refine BI (.tmp 150) (.tmp 153) rfl (by kernel_rfl) rfl rfl rfl hrun hbd' (fun _=>?_)
   try simp only[Act.put,BP,BN,BK,BQ,BS,BM]
   have pp':=DI pp hg (fun q hq e=>hpr ((Option.some.inj hq).trans (Option.some.inj e).symm))
   have hpr':pb≠r1:=by have:=(pp.lt pb rfl).2;omega
   clear pp hpr
   have pp:=pp'
   have hpr:=hpr'
   clear pp' hpr'
   clear hrun hz1 hzl1 hg hg' rr hbd
   have hbd:=hbd'
   have rr:=o1
   clear hbd' o1
   refine wpAnyH_ready (rs:=[7]) (by kernel_rfl) (by simp) ?_
   have hz1l:=HZ1.out
   obtain⟨r2,rc2,t11,hrun,o2,hg,hg'⟩:=Dn t10 y7.heap.size r1 rc1 z1 rr _ pb 1 [s] pp (by simp;omega) hbd.size
   obtain⟨z2,hz2⟩:=Ae (z1++[s])
   rw[hz2]at hrun o2
   have hz2l:z2.length=at'+1:=by rw[<-hz2];simp;omega
   have hbd':Below y7.heap.size y7 t11:=hbd.trans ((Below.refl _ _).grown hg hbd.size (by intro q hq;have e:=Option.some.inj hq;have:=Ba rr (q:=r1) rfl;omega))
   refine BI (.tmp 154) (.tmp 156) rfl (by kernel_rfl) rfl rfl rfl hrun hbd' (fun _=>?_)
   try simp only[Act.put,BP,BN,BK,BQ,BS,BM]
   obtain⟨r3,rc3,t11a,hrun3,o3,hg3,hg3'⟩:=GX t11 y7.heap.size r2 rc2 z2 o2 ad (bd.xs.length-at') (bd.c-at') (bd.xs.drop at') (by rw[List.length_drop]) (HAD.out t11 hbd') (by rw[List.length_drop];omega) hbd'.size
   obtain⟨z3,hz3⟩:=Ae (z2++bd.xs.drop at')
   rw[hz3]at hrun3 o3
   have hz3l:z3.length<=100000:=by rw[<-hz3,List.length_append,List.length_drop];omega
   have hbd3:Below y7.heap.size y7 t11a:=hbd'.trans ((Below.refl _ _).grown hg3 hbd'.size (by intro q hq;have e:=Option.some.inj hq;have:=Ba o2 (q:=r2) rfl;omega))
   refine wpAnyH_ready (rs:=[15]) (by kernel_rfl) (by simp) ?_
   refine BI (.tmp 157) (.tmp 164) rfl (by kernel_rfl) rfl rfl rfl hrun3 hbd3 (fun _=>?_)
   try simp only[Act.put,BP,BN,BK,BQ,BS,BM]
   refine AB 16 rfl ?_
   refine wpAnyH_done (by kernel_rfl) ?_ _
   have RES:Hid (z3.length<=100000/\t11a.ownsRow w.heap.size 89 11 (Vs r3 z3.length rc3) z3.length (BZ z3)/\QX G w p ao n cap pg pc ps t11a):=⟨hz3l,Au o3 hyw,X7.out.Q.below hbd3⟩
   clear hrun hrun3 hz2 hz3 hg hg' hg3 hg3' o2 o3 hbd hbd' hbd3 rr pp j0 v0 v1 v2 v3 v4 v5 v6 v7 v8 v9 v10
   go_wp2_with fail
   go_meet
   exact⟨r3,rc3,z3,rfl,RES.out.1,RES.out.2.1,RES.out.2.2⟩
 case rest=>
 obtain⟨g,gc,zs,rfl,hzl,r7,q7⟩:=hcut
 generalize wc=y8 at r7 q7⊢
 have Q8:=hxy q7
 have R8:=hxy r7
 have c8:y8.cell? (Va pg pi)=some (Vs bd.g bd.xs.length bd.c):=by
  rw[q7.row.cellAt pi (by omega),List.getElem?_map,HBD.out.1]
  rfl
 have f8:∀i,y8.frozen? (Va pg i)=false:=fun i=>q7.row.frozenAt i
 have l8:=(q7.row.lt pg rfl).2
 have hpl2:(pi:Int)<(ps.length:Int):=by omega
 clear r7 q7 X7
 go_wp2_with fail
 go_ret
 exact⟨pg,pc,ps.set pi ⟨g,gc,zs⟩,by simp,by simp;omega,by simp;omega,Q8.out.setP (i:=pi) (b:=⟨g,gc,zs⟩) R8.out hzl⟩
structure F3(p a b:Nat)(w w':World):Prop where
 os:w'.os=w.os
 tape:w'.tape=w.tape
 output:w'.output=w.output
 size:w.heap.size<=w'.heap.size
 block:∀k,k<w.heap.size->k≠p->k≠a->k≠b->w'.heap[k]?=w.heap[k]?
theorem F3.of{w':World}(f:Fw p w w'):F3 p a b w w':=⟨f.os,f.tape,f.output,f.size,fun k h1 h2 _ _=>f.block k h1 h2⟩
theorem F3.fw{u':World}(h:F3 p a b w u)(f:Fw p u u'):F3 p a b w u':=⟨f.os.trans h.os,f.tape.trans h.tape,f.output.trans h.output,Nat.le_trans h.size f.size,fun k h1 h2 h3 h4=>(f.block k (jI h1 h.size) h2).trans (h.block k h1 h2 h3 h4)⟩
theorem F3.put(h:F3 p a b w u){q:Nat}(hq:q=a∨q=b∨w.heap.size<=q)(j:Nat)(v:Value):F3 p a b w (u.setCell (Va q j) v):=by
 have k:=(Below.refl q u).setCell (p:=Va q j) (Nat.le_refl q) v;refine⟨k.os.trans h.os,k.tape.trans h.tape,k.output.trans h.output,by simpa using h.size,fun i h1 h2 h3 h4=>?_⟩;rw[<-h.block i h1 h2 h3 h4];have hn:i≠q:=by omega
 cases hx:u.heap[i]? with
 |none=>
  have:=Array.getElem?_eq_none_iff.1 hx;have h5:=h.size;omega
 |some o=>exact Av hx hn j v
def dX(S:Nat->HS)(x:Int)(i:Nat):HS:=if i=0 then{S 0 with size:=x}else S i
theorem dQ{n:Nat}{S:Nat->HS}(h:A9 w b (n*3) (QD S))(hn:1<=n)(x:Int):A9 (w.setCell (Va b 0) (Vi x)) b (n*3) (QD (dX S x)):=by
 refine(A9.set1 h 0 (by omega) _).congr (fun i hi=>?_);by_cases e:i=0
 ·subst e;rfl
 ·show(if i=0 then _ else QD S i)=_
  rw[if_neg e];unfold QD;by_cases e3:i/3=0
  ·have:i=1∨i=2:=by omega
   rcases this with rfl|rfl<;>rfl
  ·unfold dX;rw[if_neg e3]
structure SP(w:World)(p:Nat)(ao:Option Addr)(n cap nb r bH cH nH:Nat)(S:Nat->HS)(bR cR nR:Nat)(V0:Nat->VV)(u:World):Prop where
 F:F3 p bH bR w u
 K:Bj u p ao n cap
 B:u.heap[nb]?=some (.cells #[Vs bH nH cH,Vs bR nR cR] 26)
 Z:u.heap[r]?=some (.cells #[.slice none 0 0,.slice none 0 0] 26)
 G:Bl u bH nH S bR nR V0
 o1:p<bH
 o2:p<bR
 o3:bH≠bR
 o4:bH<nb
 o5:bR<nb
 o6:nb<r
 o7:w.heap.size<=nb
section
variable{w:World}{p:Nat}{ao:Option Addr}{n cap nb r bH cH nH:Nat}{S:Nat->HS}{bR cR nR:Nat}{V0:Nat->VV}{u u':World}
theorem SP.fw(h:SP w p ao n cap nb r bH cH nH S bR cR nR V0 u)(f:Fw p u u')(k:Bj u' p ao n cap):SP w p ao n cap nb r bH cH nH S bR cR nR V0 u':=
 have q1:=h.o1
 have q2:=h.o2
 have q4:=h.o4
 have q6:=h.o6
 ⟨h.F.fw f,k,CJ h.B f (by omega),CJ h.Z f (by omega),⟨f.arr h.G.h (by omega),f.arr h.G.r (by omega)⟩,q1,q2,h.o3,q4,h.o5,q6,h.o7⟩
theorem SP.setV(h:SP w p ao n cap nb r bH cH nH S bR cR 8 V0 u){d:Nat}(hd:d<8)(x:VV):SP w p ao n cap nb r bH cH nH S bR cR 8 (Eo V0 d x) (put6 u bR (d*6) x):=by
 have q1:=h.o1;have q2:=h.o2;have q3:=h.o3;have q4:=h.o4;have q5:=h.o5;have q6:=h.o6;unfold put6;refine⟨?_,?_,?_,?_,⟨?_,?_⟩,q1,q2,q3,q4,q5,q6,h.o7⟩
 ·exact(((((h.F.put (.inr (.inl rfl)) _ _).put (.inr (.inl rfl)) _ _).put (.inr (.inl rfl)) _ _).put (.inr (.inl rfl)) _ _).put (.inr (.inl rfl)) _ _).put (.inr (.inl rfl)) _ _
 ·exact(((((h.K.put q2 _ _).put q2 _ _).put q2 _ _).put q2 _ _).put q2 _ _).put q2 _ _
 ·iterate 6 refine Av ?_ (show nb≠bR by omega) _ _
  exact h.B
 ·iterate 6 refine Av ?_ (show r≠bR by omega) _ _
  exact h.Z
 ·iterate 6 refine A9.other ?_ (show bR≠bH by omega) _
  exact h.G.h
 ·exact Jp h.G.r hd x
theorem SP.setS(h:SP w p ao n cap nb r bH cH nH S bR cR nR V0 u)(hn:1<=nH)(x:Int):SP w p ao n cap nb r bH cH nH (dX S x) bR cR nR V0 (u.setCell (Va bH 0) (Vi x)):=by
 have q1:=h.o1;have q3:=h.o3;have q4:=h.o4;have q6:=h.o6;exact⟨h.F.put (.inl rfl) _ _,h.K.put q1 _ _,Av h.B (by omega) _ _,Av h.Z (by omega) _ _,⟨dQ h.G.h hn x,h.G.r.other (a:=Va bH 0) q3 _⟩,q1,h.o2,q3,q4,h.o5,q6,h.o7⟩
theorem SP.cut(h:SP w p ao n cap nb r bH cH nH S bR cR 8 V0 u):SP w p ao n cap nb r bH cH nH S bR cR 7 V0 (u.setCell (Va nb 1) (Vs bR 7 cR)):=by
 have q1:=h.o1;have q4:=h.o4;have q5:=h.o5;have q6:=h.o6;have hr:=h.G.r.other (a:=Va nb 1) (show nb≠bR by omega) (Vs bR 7 cR);exact⟨h.F.put (.inr (.inr h.o7)) _ _,h.K.put (by omega) _ _,Ci h.B 1 _,Av h.Z (by omega) _ _,⟨h.G.h.other (a:=Va nb 1) (show nb≠bH by omega) _,⟨hr.1,hr.2.1,fun i hi=>hr.2.2 i (by omega)⟩⟩,q1,h.o2,h.o3,q4,q5,q6,h.o7⟩
theorem SP.cells(h:SP w p ao n cap nb r bH cH nH S bR cR nR V0 u):u.cell? (Va nb 0)=some (Vs bH nH cH)/\u.cell? (Va nb 1)=some (Vs bR nR cR)/\(∀i,u.frozen? (Va nb i)=false)/\nb<u.heap.size/\bH<u.heap.size/\bR<u.heap.size:=⟨(AY h.B 0).trans rfl,(AY h.B 1).trans rfl,Cr h.B,Bb h.B,h.G.h.lt,h.G.r.lt⟩
end
def ig(w:World)(p:Nat)(ao:Option Addr)(n cap bH cH nH bR cR:Nat)(e:Ending)(w':World):Prop:=
 ∃(S:Nat->HS)(nR:Nat)(V0:Nat->VV),e=.returned (.agg #[Vs bH nH cH,Vs bR nR cR])/\nR<=8/\Bl w' bH nH S bR nR V0/\F3 p bH bR w w'/\Bj w' p ao n cap
theorem Lm(p:Nat)(ao:Option Addr)(n cap:Nat)(bH cH nH:Nat)(S:Nat->HS)(bR cR:Nat)(V0:Nat->VV)(w:World)(hc:Bj w p ao n cap)(hs:Bl w bH nH S bR 8 V0)(h1:1<=nH)(h4:nH<=4)(hcR:8<=cR)(o1:p<bH)(o2:p<bR)(o3:bH≠bR):
 Calls Tryz.prog 12 #[Vq p,.agg #[Vs bH nH cH,Vs bR 8 cR]] w (ig w p ao n cap bH cH nH bR cR):=by
 have HC:=hxy hc;have HS:=hxy hs;clear hc hs;go_enter Tryz.func12,Tryz.ntmps12;go_upto_region 1 with fail;obtain⟨u0,hu0,s0⟩:∃y,(w.alloc (.cells #[Vs bH nH cH,Vs bR 8 cR] 26)).alloc (.cells #[.slice none 0 0,.slice none 0 0] 26)=y/\SP w p ao n cap w.heap.size (w.heap.size+1) bH cH nH S bR cR 8 V0 y:=by
  have b:Below w.heap.size w ((w.alloc (.cells #[Vs bH nH cH,Vs bR 8 cR] 26)).alloc (.cells #[.slice none 0 0,.slice none 0 0] 26)):=(Ak).alloc (by simp) _;have e1:(w.alloc (.cells #[Vs bH nH cH,Vs bR 8 cR] 26)).heap.size=w.heap.size+1:=by simp
  refine⟨_,rfl,.of (.of_below b),HC.out.below b,Aw (Bh w _) Ak,?_,HS.out.below b,o1,o2,o3,HS.out.h.lt,HS.out.r.lt,Nat.lt_succ_self _,jG⟩;rw[<-e1];exact Bh _ _
 rw[hu0];obtain⟨r,hr⟩:=Ae (w.heap.size+1);obtain⟨nb,hnb⟩:=Ae w.heap.size;rw[hr]at s0;rw[hr];rw[hnb]at s0;rw[hnb];have S0:Hid (SP w p ao n cap nb r bH cH nH S bR cR 8 V0 u0):=(by rw[<-hnb]at s0⊢;exact s0:SP w p ao n cap nb r bH cH nH S bR cR 8 V0 u0)
 clear hu0 s0 hr hnb HC HS;go_wp2_with fail;refine(Aa p ao n cap 6 _ (by omega) S0.out.K).mono ?_;rintro e u1⟨k,rfl,k0,k6,f,c⟩;have S1:=hxy (S0.out.fw f c);clear f c S0;go_wp2_with fail;refine(Aa p ao n cap 8 _ (by omega) S1.out.K).mono ?_;rintro e u2⟨di,rfl,d0,d8,f,c⟩;have S2:=hxy (S1.out.fw f c);clear f c S1;obtain⟨d,rfl⟩:∃d:Nat,di=(d:Int):=⟨di.toNat,by omega⟩
 have hd:d<8:=by omega
 have hn0:0<nH:=by omega
 go_upto_block 0 with fail;go_cut [](fun wx=>∃S' nR V0',nR<=8/\SP w p ao n cap nb r bH cH nH S' bR cR nR V0' wx)
 case first=>as_aux_lemma=>
  obtain⟨c0,c1,cf,cl,bl,rl⟩:=S2.out.cells;obtain⟨v0,v1,v2,v3,v4,v5⟩:=Cm S2.out.G.r d hd;have vf:=S2.out.G.r.free;have hk:k=0∨k=1∨k=2∨k=3∨k=4∨k=5:=by omega
  rcases hk with rfl|rfl|rfl|rfl|rfl|rfl
  ·clear c0 c1 cf cl bl rl v0 v1 v2 v3 v4 v5 vf
   have j0:∀w',Fw p u2 w'/\Bj w' p ao n cap->w'.cell? (Va nb 0)=some (Vs bH nH cH):=fun w' h=>(S2.out.fw h.1 h.2).cells.1
   have jz:∀w',Fw p u2 w'/\Bj w' p ao n cap->nb<w'.heap.size:=fun w' h=>(S2.out.fw h.1 h.2).cells.2.2.2.1
   go_upto_region 5 with fail;refine BF (T:=fun w'=>Fw p u2 w'/\Bj w' p ao n cap) (s:=7) (by kernel_rfl) ⟨.of_below (Below.refl _ _).drew,S2.out.K.below (Below.refl _ _).drew⟩ (fun hHeld=>?_);refine AJ 0 rfl ?_;refine AJ 1 rfl ?_;refine AJ 2 rfl ?_;refine Aq (i:=3) rfl (by kernel_rfl) (fun KK hK=>?_);go_simp;refine(Aa p ao n cap 2 _ (by omega) (S2.out.K.below (Below.refl _ _).drew)).mono ?_;rintro e u3⟨y,rfl,y0,y1,f,c⟩;have T3:Fw p u2 u3/\Bj u3 p ao n cap:=⟨(Fw.of_below (Below.refl _ _).drew).trans f,c⟩
   go_wp2_with fail;refine hK.out _ _ T3 (fun hHeld2=>?_);clear hK KK f c;try simp only[Act.put,BP,BN,BK,BQ,BS,BM]
   refine AJ 4 rfl ?_;refine C9 5 rfl ?_;refine AJ 6 rfl ?_;have S3:=hxy (S2.out.fw T3.1 T3.2);clear T3 j0 jz hHeld hHeld2 S2;obtain⟨hh0,_,_⟩:=XQ S3.out.G.h (q:=0) (by omega);have hf:=S3.out.G.h.free;have hl:=S3.out.G.h.lt;simp only[Nat.zero_mul]at hh0;refine A7 rfl (by kernel_rfl) (by kernel_rfl) (fun KK hK=>?_);go_simp;refine hK.out _ _ ?_;clear hK KK hh0 hf hl;go_wp2_with fail;go_meet;exact⟨_,8,_,jG,S3.out.setS h1 _⟩
  ·go_wp2_with fail
   go_meet;exact⟨_,7,_,by omega,S2.out.cut⟩
  ·go_wp2_with fail
   go_meet;exact⟨_,8,_,jG,S2.out.setV hd ⟨0,false,-2,0,0,0⟩⟩
  ·go_wp2_with fail
   go_meet;exact⟨_,8,_,jG,S2.out.setV hd ⟨1,false,0,(nH:Int),0,0⟩⟩
  ·go_wp2_with fail
   go_meet;exact⟨_,8,_,jG,S2.out.setV hd ⟨1,false,0,0,2,1⟩⟩
  ·clear c0 c1 cf cl bl rl v0 v1 v2 v3 v4 v5 vf
   have j0:∀w',Fw p u2 w'/\Bj w' p ao n cap->w'.cell? (Va nb 1)=some (Vs bR 8 cR):=fun w' h=>(S2.out.fw h.1 h.2).cells.2.1
   have jz:∀w',Fw p u2 w'/\Bj w' p ao n cap->nb<w'.heap.size:=fun w' h=>(S2.out.fw h.1 h.2).cells.2.2.2.1
   go_upto_region 15 with fail;refine BF (T:=fun w'=>Fw p u2 w'/\Bj w' p ao n cap) (s:=8) (by kernel_rfl) ⟨.of_below (Below.refl _ _).drew,S2.out.K.below (Below.refl _ _).drew⟩ (fun hHeld=>?_);refine AJ 0 rfl ?_;refine AJ 1 rfl ?_;refine AJ 2 rfl ?_
   refine AJ 3 rfl ?_
   refine Aq (i:=4) rfl (by kernel_rfl) (fun KK hK=>?_)
   go_simp
   refine(Aa p ao n cap 2 _ (by omega) (S2.out.K.below (Below.refl _ _).drew)).mono ?_
   rintro e u3⟨y,rfl,y0,y1,f,c⟩
   have T3:Fw p u2 u3/\Bj u3 p ao n cap:=⟨(Fw.of_below (Below.refl _ _).drew).trans f,c⟩
   go_wp2_with fail
   refine hK.out _ _ T3 (fun hHeld2=>?_)
   clear hK KK f c
   try simp only[Act.put,BP,BN,BK,BQ,BS,BM]
   refine AJ 5 rfl ?_
   refine AJ 6 rfl ?_
   refine AJ 7 rfl ?_
   have S3:=hxy (S2.out.fw T3.1 T3.2)
   clear T3 j0 jz hHeld hHeld2 S2
   obtain⟨v0,v1,v2,v3,v4,v5⟩:=Cm S3.out.G.r d hd
   have vf:=S3.out.G.r.free
   have vl:=S3.out.G.r.lt
   refine A7 rfl (by kernel_rfl) (by kernel_rfl) (fun KK hK=>?_)
   go_simp
   refine hK.out _ _ ?_
   clear hK KK v0 v1 v2 v3 v4 v5 vf vl
   go_wp2_with fail
   go_meet
   exact⟨_,8,_,jG,S3.out.setV hd ⟨0,false,_,0,0,0⟩⟩
 case rest=>
 obtain⟨S',nR,V0',hn8,s3⟩:=hcut
 generalize wc=u3 at *
 have S3:=hxy s3
 clear s3 S2
 obtain⟨c0,c1,cf,cl,bl,rl⟩:=S3.out.cells
 have z0:=(AY S3.out.Z 0).trans rfl
 have z1:=(AY S3.out.Z 1).trans rfl
 have zf:=Cr S3.out.Z
 have zl:=Bb S3.out.Z
 have hne:r≠nb:=by have:=S3.out.o6;omega
 go_wp2_with fail
 refine bodyPost_ret (v:=.agg #[Vs bH nH cH,Vs bR nR cR]) (by simp[results,Tryz.results12,go_sem, *]) rfl ⟨S',nR,V0',rfl,hn8,?_,?_,?_⟩
 ·have q4:=S3.out.o4
  have q5:=S3.out.o5
  have q6:=S3.out.o6
  exact⟨(S3.out.G.h.other (a:=Va r 0) (show r≠bH by omega) _).other (a:=Va r 1) (show r≠bH by omega) _,(S3.out.G.r.other (a:=Va r 0) (show r≠bR by omega) _).other (a:=Va r 1) (show r≠bR by omega) _⟩
 ·have q6:=S3.out.o6
  have q7:=S3.out.o7
  exact(S3.out.F.put (.inr (.inr (by omega))) _ _).put (.inr (.inr (by omega))) _ _
 ·have q1:=S3.out.o1
  have q4:=S3.out.o4
  have q6:=S3.out.o6
  exact(S3.out.K.put (by omega) _ _).put (by omega) _ _
end Go.Proofs.YtfpeecaaleijcaaGreatDoor
