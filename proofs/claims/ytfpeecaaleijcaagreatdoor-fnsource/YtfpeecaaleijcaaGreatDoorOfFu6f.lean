import Derived.Test.YtfpeecaaleijcaaGreatDoorOfCl
import Derived.Test.YtfpeecaaleijcaaGreatDoorFu6d
set_option maxHeartbeats 32000000
set_option maxRecDepth 20000
namespace Go.Proofs.YtfpeecaaleijcaaGreatDoor
open Go.RowKit Go.Deep
variable {qB zB:Int}{B c2 cB g g2 gB n nH nb rr:Nat}{S:Nat->HS}{V0 VB:Nat->VV}{u u' w:World}
theorem A9.grw{row:Option Nat}{b:Nat}{f:Nat->Value}(h:A9 u b n f)(hg:u.grownBy u' row)(hn:row≠some b):A9 u' b n f:=
 ⟨jI h.lt hg.size,fun i=>(World.frozen?_of_block (a:=Va b i) (hg.block b h.lt (fun e=>hn e.symm))).trans (h.free i),fun i hi=>(World.cell?_of_block (a:=Va b i) (hg.block b h.lt (fun e=>hn e.symm))).trans (h.cell hi)⟩
theorem Ep.grw{p:Nat}{ao:Option Addr}{cap:Nat}{bH cH:Nat}{bR cR:Nat}{bA cA:Nat}{V:Nat->VV}{z c:Int}{bs ba br:Nat}(h:Ep w p ao n cap bH cH nH S bR cR V0 bA cA V z c bs ba br u)(hg:u.grownBy u' (some g))(hge:w.heap.size<=g)(n1:g≠bs)(n2:g≠ba)(n3:g≠br)(n4:g≠bA):Ep w p ao n cap bH cH nH S bR cR V0 bA cA V z c bs ba br u':=by
 have ne:∀{b:Nat},g≠b->(some g:Option Nat)≠some b:=fun hn e=>hn (Option.some.inj e)
 have p0:=h.pw;exact⟨h.F.grown hg (fun k hk=>by have e:=Option.some.inj hk;omega),h.K.grown hg (fun k hk=>by have e:=Option.some.inj hk;omega),BJ h.sg hg (ne n1),BJ h.A hg (ne n2),BJ h.R hg (ne n3),⟨h.sc.h.grw hg (ne (by have:=h.n1;omega)),h.sc.r.grw hg (ne (by have:=h.n2;omega))⟩,h.G.grw hg (ne n4),h.ok,h.lH,h.pw,h.o1,h.o2,h.o3,h.n1,h.n2,h.n3,h.p1,h.p2,h.p3⟩
theorem Bg{P:Program}{ops:Array Oper}{rest:List Oper}{o:Oper}{a:Act}{w':World}{Q:Exit->Act->World->Prop}(hgd:o.guard=none)(s x:Operand)(t:TypeId){v u v':Value}(ho:o.op=.call {callee:=.builtin .append,args:=#[s,x],argTypes:=#[t,t]})(hs:a.eval s=v)(hx:a.eval x=u)(hr:(Builtin.append_ #[t,t] o.type #[v,u]).run P w=.ok v' w')(h:wpList P ops Q rest (a.put o.dst v') w'):wpList P ops Q (o::rest) a w:=by
 refine wpList_plain hgd fun K hK=>?_
 unfold Oper.wp execOp;simp only[ho,resolve,invoke,builtin,Sem.run_bind,Sem.run_pure,Result.andThen_ok,List.map_toArray,List.map_cons,List.map_nil,hs,hx,hr];exact hK _ _ h
structure KV(nH:Nat)(S:Nat->HS)(V0:Nat->VV)(B nb gB cB:Nat)(VB:Nat->VV)(zB qB:Int)(u:World):Prop where
 N:V3 u nb 136 (Vs gB 8 cB) (Vi zB) (Vi qB)
 A:A9 u gB (8*6) (vF VB)
 ok:BA nH S 8 V0 8 VB zB qB=true
 ge:B<=gB
 gn:B<=nb
theorem KV.below(h:KV nH S V0 B nb gB cB VB zB qB u)(f:Below u.heap.size u u'):KV nH S V0 B nb gB cB VB zB qB u':=⟨h.N.below f,h.A.below f h.A.lt,h.ok,h.ge,h.gn⟩
theorem KV.fw{p:Nat}(h:KV nH S V0 B nb gB cB VB zB qB u)(hp:p<B)(f:Fw p u u'):KV nH S V0 B nb gB cB VB zB qB u':=⟨CJ h.N f (by have:=h.gn;omega),f.arr h.A (by have:=h.ge;omega),h.ok,h.ge,h.gn⟩
theorem KV.grw(h:KV nH S V0 B nb gB cB VB zB qB u)(hg:u.grownBy u' (some g))(n1:g≠nb)(n2:g≠gB):KV nH S V0 B nb gB cB VB zB qB u':=⟨BJ h.N hg (fun e=>n1 (Option.some.inj e)),h.A.grw hg (fun e=>n2 (Option.some.inj e)),h.ok,h.ge,h.gn⟩
theorem KV.put{q:Nat}(h:KV nH S V0 B nb gB cB VB zB qB u)(n1:q≠nb)(n2:q≠gB)(j:Nat)(v:Value):KV nH S V0 B nb gB cB VB zB qB (u.setCell (Va q j) v):=⟨Av h.N (fun e=>n1 e.symm) _ _,h.A.other n2 _,h.ok,h.ge,h.gn⟩
theorem Ob{im:Int}(h:rr<=7)(i0:0<=im)(i1:im<=5):Ar 2 (rr:Int) 0 0 im 0=true:=by
 unfold Ar;simp only[show DV 2 1=true by kernel_rfl,show DV 2 2=false by kernel_rfl,show DV 2 4=false by kernel_rfl,show DV 2 8=true by kernel_rfl,show DV 2 16=false by kernel_rfl,C8,CX,Ca];simp[Ec];omega
theorem JL(h:rr<=7):Ar 18 0 (rr:Int) 0 0 0=true:=by
 unfold Ar;simp only[show DV 18 1=false by kernel_rfl,show DV 18 2=true by kernel_rfl,show DV 18 4=false by kernel_rfl,show DV 18 8=true by kernel_rfl,show DV 18 16=false by kernel_rfl,C8,CX,Ca];simp[Ec];omega
theorem T9{dd:Nat}(h:rr<=7)(hd:dd<=7):Ar 11 (dd:Int) (rr:Int) 0 7 0=true:=by
 unfold Ar;simp only[show DV 11 1=true by kernel_rfl,show DV 11 2=true by kernel_rfl,show DV 11 4=false by kernel_rfl,show DV 11 8=true by kernel_rfl,show DV 11 16=false by kernel_rfl,C8,CX,Ca];simp[Ec];omega
theorem Ox{V:Nat->VV}{z c op d ra rb imm h:Int}{w':World}{e:Ending}(t:iR nH S 8 V0 8 V z c op d ra rb imm h w e w')(ho:BA nH S 8 V0 8 V z c=true)(hi:Ar op d ra rb imm h=true)(h3:op=2∨op=11∨op=18):∃g cg V' z' c',e=.returned (.agg #[Vi 0,Vs g 8 cg,Vi z',Vi c'])/\w.heap.size<=g/\A9 w' g (8*6) (vF V')/\BA nH S 8 V0 8 V' z' c'=true/\Below w.heap.size w w':=by
 obtain⟨err,V',z',c',ha,hk,h0,hb⟩:=t;have e0:=h0 ho hi h3;subst e0;rcases ha with⟨hn,_⟩|⟨_,g,cg,h1,h2,h3⟩
 ·exact absurd rfl hn
 ·exact⟨g,cg,V',z',c',h2,h1,h3,hk rfl,hb⟩
theorem O8{x y q:Value}(N:V3 u nb 136 x y q)(A:A9 u gB (8*6) (vF VB))(ok:BA nH S 8 V0 8 VB zB qB=true)(ge:B<=gB)(hB:B<=nb)(ne:gB≠nb):KV nH S V0 B nb gB cB VB zB qB (((u.setCell (Va nb 0) (Vs gB 8 cB)).setCell (Va nb 1) (Vi zB)).setCell (Va nb 2) (Vi qB)):=
 ⟨N.set _ _ _,DY A ne _ _ _,ok,ge,hB⟩
structure LQ(w:World)(p:Nat)(ao:Option Addr)(n cap:Nat)(bH cH nH:Nat)(S:Nat->HS)(bR cR:Nat)(V0:Nat->VV)(bA cA:Nat)(V:Nat->VV)(z c:Int)(bs ba br B fb fc:Nat)(fs:List SV)(nb gB cB:Nat)(VB:Nat->VV)(zB qB:Int)(ni gI cI:Nat)(VI:Nat->VV)(zI qI:Int)(xg xc:Nat)(xs:List SV)(u:World):Prop where
 X:Ep w p ao n cap bH cH nH S bR cR V0 bA cA V z c bs ba br u
 Fr:u.ownsRow w.heap.size 89 11 (Vs fb fs.length fc) fs.length (BZ fs)
 Bo:u.ownsRow w.heap.size 89 11 (Vs xg xs.length xc) xs.length (BZ xs)
 KB:KV nH S V0 B nb gB cB VB zB qB u
 KI:KV nH S V0 B ni gI cI VI zI qI u
 q1:xg≠fb
 q2:xg≠gB
 q3:xg≠gI
 q4:fb≠gB
 q5:fb≠gI
 w1:w.heap.size<=B
 w2:br<B
 la:bA<w.heap.size
section
variable{w:World}{p:Nat}{ao:Option Addr}{n cap:Nat}{bH cH nH:Nat}{S:Nat->HS}{bR cR:Nat}{V0:Nat->VV}{bA cA:Nat}{V:Nat->VV}{z c:Int}{bs ba br B fb fc:Nat}{fs:List SV}{nb gB cB:Nat}{VB:Nat->VV}{zB qB:Int}{ni gI cI:Nat}{VI:Nat->VV}{zI qI:Int}{xg xc:Nat}{xs:List SV}{u u':World}
theorem LQ.fw(h:LQ w p ao n cap bH cH nH S bR cR V0 bA cA V z c bs ba br B fb fc fs nb gB cB VB zB qB ni gI cI VI zI qI xg xc xs u)(f:Fw p u u')(k:Bj u' p ao n cap):LQ w p ao n cap bH cH nH S bR cR V0 bA cA V z c bs ba br B fb fc fs nb gB cB VB zB qB ni gI cI VI zI qI xg xc xs u':=by
 have p0:=h.X.pw;have w1:=h.w1;exact⟨h.X.fw f k,DX h.Fr f p0,DX h.Bo f p0,h.KB.fw (by omega) f,h.KI.fw (by omega) f,h.q1,h.q2,h.q3,h.q4,h.q5,h.w1,h.w2,h.la⟩
theorem LQ.below(h:LQ w p ao n cap bH cH nH S bR cR V0 bA cA V z c bs ba br B fb fc fs nb gB cB VB zB qB ni gI cI VI zI qI xg xc xs u)(f:Below u.heap.size u u'):LQ w p ao n cap bH cH nH S bR cR V0 bA cA V z c bs ba br B fb fc fs nb gB cB VB zB qB ni gI cI VI zI qI xg xc xs u':=h.fw (.of_below f) (h.X.K.below f)
theorem LQ.growX(h:LQ w p ao n cap bH cH nH S bR cR V0 bA cA V z c bs ba br B fb fc fs nb gB cB VB zB qB ni gI cI VI zI qI xg xc xs u){ys:List SV}(hg:u.grownBy u' (some xg))(o:u'.ownsRow w.heap.size 89 11 (Vs g2 ys.length c2) ys.length (BZ ys))(h2:g2=xg∨g2=u.heap.size):LQ w p ao n cap bH cH nH S bR cR V0 bA cA V z c bs ba br B fb fc fs nb gB cB VB zB qB ni gI cI VI zI qI g2 c2 ys u':=by
 have hge:=Ba h.Bo (q:=xg) rfl;have ty:∀{b t:Nat}{vs:Array Value},u.heap[b]?=some (.cells vs t)->t≠89->xg≠b:=fun hx he e=>Am hx h.Bo he (by rw[e];rfl)
 have m1:xg≠nb:=ty h.KB.N (by decide);have m2:xg≠ni:=ty h.KI.N (by decide);have la:=h.la;have l1:fb<u.heap.size:=(h.Fr.lt fb rfl).2;have l2:gB<u.heap.size:=h.KB.A.lt;have l3:gI<u.heap.size:=h.KI.A.lt;have q1:=h.q1;have q2:=h.q2;have q3:=h.q3;exact⟨h.X.grw hg hge (ty h.X.sg (by decide)) (ty h.X.A (by decide)) (ty h.X.R (by decide)) (by omega),DI h.Fr hg (fun q hq e=>by
  have e1:fb=q:=Option.some.inj hq;have e2:xg=q:=Option.some.inj e;omega),o,h.KB.grw hg m1 q2,h.KI.grw hg m2 q3,by omega,by omega,by omega,h.q4,h.q5,h.w1,h.w2,h.la⟩
theorem LQ.growF(h:LQ w p ao n cap bH cH nH S bR cR V0 bA cA V z c bs ba br B fb fc fs nb gB cB VB zB qB ni gI cI VI zI qI xg xc xs u){ys:List SV}(hg:u.grownBy u' (some fb))(o:u'.ownsRow w.heap.size 89 11 (Vs g2 ys.length c2) ys.length (BZ ys))(h2:g2=fb∨g2=u.heap.size):LQ w p ao n cap bH cH nH S bR cR V0 bA cA V z c bs ba br B g2 c2 ys nb gB cB VB zB qB ni gI cI VI zI qI xg xc xs u':=by
 have hge:=Ba h.Fr (q:=fb) rfl;have ty:∀{b t:Nat}{vs:Array Value},u.heap[b]?=some (.cells vs t)->t≠89->fb≠b:=fun hx he e=>Am hx h.Fr he (by rw[e];rfl)
 have m1:fb≠nb:=ty h.KB.N (by decide);have m2:fb≠ni:=ty h.KI.N (by decide);have la:=h.la;have l1:xg<u.heap.size:=(h.Bo.lt xg rfl).2;have l2:gB<u.heap.size:=h.KB.A.lt;have l3:gI<u.heap.size:=h.KI.A.lt;have q1:=h.q1;have q4:=h.q4;have q5:=h.q5;exact⟨h.X.grw hg hge (ty h.X.sg (by decide)) (ty h.X.A (by decide)) (ty h.X.R (by decide)) (by omega),o,DI h.Bo hg (fun q hq e=>by
  have e1:xg=q:=Option.some.inj hq;have e2:fb=q:=Option.some.inj e;omega),h.KB.grw hg m1 q4,h.KI.grw hg m2 q5,by omega,h.q2,h.q3,by omega,by omega,h.w1,h.w2,h.la⟩
theorem LQ.putI(h:LQ w p ao n cap bH cH nH S bR cR V0 bA cA V z c bs ba br B fb fc fs nb gB cB VB zB qB ni gI cI VI zI qI xg xc xs u){V2:Nat->VV}{z2 q2':Int}(hA:A9 u g2 (8*6) (vF V2))(ok:BA nH S 8 V0 8 V2 z2 q2'=true)(ge:B<=g2)(n1:g2≠ni)(n2:g2≠fb)(n3:g2≠xg)(n4:ni≠nb)(n5:ni≠gB):LQ w p ao n cap bH cH nH S bR cR V0 bA cA V z c bs ba br B fb fc fs nb gB cB VB zB qB ni g2 c2 V2 z2 q2' xg xc xs (((u.setCell (Va ni 0) (Vs g2 8 c2)).setCell (Va ni 1) (Vi z2)).setCell (Va ni 2) (Vi q2')):=by
 have gn:=h.KI.gn;have w1:=h.w1;have w2:=h.w2;have la:=h.la;have f1:(Vs fb fs.length fc).ownBlock≠some ni:=Am h.KI.N h.Fr (by decide);have f2:(Vs xg xs.length xc).ownBlock≠some ni:=Am h.KI.N h.Bo (by decide);exact⟨((h.X.put (by omega) (by omega) _ _).put (by omega) (by omega) _ _).put (by omega) (by omega) _ _,Dj h.Fr f1 _ _ _,Dj h.Bo f2 _ _ _,((h.KB.put n4 n5 _ _).put n4 n5 _ _).put n4 n5 _ _,O8 h.KI.N hA ok ge gn n1,h.q1,h.q2,fun e=>n3 e.symm,h.q4,fun e=>n2 e.symm,h.w1,h.w2,h.la⟩
end
theorem IE{e s c:Nat}{xs:List Value}(h:w.ownsRow B e s (Vs g n c) n xs):n<=c:=by
 rcases h.2 with⟨h,_⟩|⟨g',cap,cur,h,_,_,h4,_⟩
 ·cases h
 ·have:c=cap:=by simpa using(Value.slice.inj h).2.2
  omega
theorem bU{cg:Nat}{xs:List SV}(h:w.ownsRow B 89 11 (Vs g xs.length cg) xs.length (BZ xs)):SL w (Vs g xs.length cg) xs:=
 ⟨_,cg,rfl,IE h,.inr ⟨g,0,rfl,(h.lt g rfl).2,fun i hi=>by rw[Nat.zero_add,h.cellAt i hi];exact LH xs UY i hi⟩⟩
def Fu(rr:Nat)(im:Int):SV:=⟨1,2,(rr:Int),0,0,im,0,0,0,0,0⟩
def E8(rr:Nat):SV:=⟨1,18,0,(rr:Int),0,0,0,0,0,0,0⟩
theorem XF(A:A9 u gB (8*6) (vF VB))(ok:BA nH S 8 V0 8 VB zB qB=true)(ge:B<=gB)(hB:B<=u.heap.size):KV nH S V0 B u.heap.size gB cB VB zB qB (u.alloc (.cells #[.slice (some ⟨gB,0,none⟩) 8 cB,.int .i64 zB,.int .i64 qB] 136)):=
 ⟨V3.new _ _ _ _ _,A.below (Ak) A.lt,ok,ge,hB⟩
theorem Ni(d:Nat)(IH:ZA d)(hd:d<=3)(p:Nat)(ao:Option Addr)(n cap:Nat)(bH cH nH:Nat)(S:Nat->HS)(bR cR:Nat)(V0:Nat->VV)(bA cA:Nat)(V:Nat->VV)(z c busy:Int)(w:World)(hc:Bj w p ao n cap)(h1:Bl w bH nH S bR 8 V0)(h2:A9 w bA (8*6) (vF V))(h3:BA nH S 8 V0 8 V z c=true)(p1:bH≠p)(p2:bR≠p)(p3:bA≠p):
 Calls Tryz.prog 100 #[.pointer (some ⟨p,0,none⟩),.agg #[.slice (some ⟨bH,0,none⟩) nH cH,.slice (some ⟨bR,0,none⟩) 8 cR],.agg #[.slice (some ⟨bA,0,none⟩) 8 cA,.int .i64 z,.int .i64 c],.int .i64 ((d+1:Nat):Int),.int .i64 busy] w (Wi nH S V0 bA (gb (d+1)) w p ao n cap):=by
 have X0:Hid (Ep w p ao n cap bH cH nH S bR cR V0 bA cA V z c w.heap.size (w.heap.size+1) (w.heap.size+1+1) (((w.alloc (.cells #[.slice (some ⟨bH,0,none⟩) nH cH,.slice (some ⟨bR,0,none⟩) 8 cR] 26)).alloc (.cells #[.slice (some ⟨bA,0,none⟩) 8 cA,.int .i64 z,.int .i64 c] 136)).alloc (.cells #[.slice none 0 0,.int .i64 0,.int .i64 0] 136))):=Ph w hc h1 h2 h3 p1 p2 p3;have LA:=hxy h2.lt;have lp:=hc.lt;clear hc h1 h2 h3 p1 p2;go_enter Tryz.func100,Tryz.ntmps100;go_upto_region 1 with fail;obtain⟨u,hu⟩:=Ae (((w.alloc (.cells #[.slice (some ⟨bH,0,none⟩) nH cH,.slice (some ⟨bR,0,none⟩) 8 cR] 26)).alloc (.cells #[.slice (some ⟨bA,0,none⟩) 8 cA,.int .i64 z,.int .i64 c] 136)).alloc (.cells #[.slice none 0 0,.int .i64 0,.int .i64 0] 136));rw[hu]at X0⊢;obtain⟨bs,hbs⟩:=Ae (w.heap.size);obtain⟨ba,hba⟩:=Ae (w.heap.size+1);obtain⟨br,hbr⟩:=Ae (w.heap.size+1+1);have X0:Hid (Ep w p ao n cap bH cH nH S bR cR V0 bA cA V z c bs ba br u):=by rw[<-hbs,<-hba,<-hbr];exact X0
 rw[hbr,hba,hbs];have BO:Hid (w.heap.size=bs/\bs<ba/\ba<br):=⟨hbs,by omega,by omega⟩
 clear hu hbs hba hbr;go_wp2_with fail;refine(Aa p ao n cap 4 _ (by omega) X0.out.K).mono ?_;rintro e y1⟨cd,rfl,cd0,cd4,f,k'⟩;have X1:Hid (Ep w p ao n cap bH cH nH S bR cR V0 bA cA V z c bs ba br y1):=X0.out.fw f k';clear f k' X0;obtain⟨rr,hrr⟩:∃rr:Nat,4+cd=(rr:Int):=⟨(4+cd).toNat,by omega⟩
 have rr4:4<=rr:=by omega
 have rr7:rr<=7:=by omega
 go_upto_region 2 with fail;try rw[hrr]
 clear hrr;by_cases hbu:0<=busy
 ·skip
  obtain⟨⟨s0,s1⟩,⟨a0,a1,a2⟩,al1,al2⟩:=X1.out.cells;go_wp2_with fail;refine(E5 p ao n cap bH cH nH S bR cR V0 bA cA V z c busy y1 X1.out.K X1.out.sc X1.out.G X1.out.ok X1.out.p1 X1.out.p2 X1.out.p3).mono ?_;rintro e z3⟨g,cg,xs,gA,cA',V',z',c',rfl,hwl,hlen,hrow,nwA,hA,okA,f,k'⟩;have Z3:Hid (Ep w p ao n cap bH cH nH S bR cR V0 bA cA V z c bs ba br z3):=X1.out.fw f k';have hs2:=X1.out.F.size;have hbr2:=X1.out.R.lt;have hn3:=X1.out.n3;have hgbr:gA≠br:=by omega
  have HR:Hid (z3.ownsRow w.heap.size 89 11 (.slice (some ⟨g,0,none⟩) xs.length cg) xs.length (BZ xs)):=Au hrow hs2;have RES:Hid (Wl xs/\xs.length<=gb (d+1)/\(gA=bA∨w.heap.size<=gA)/\A9 z3 gA (8*6) (vF V')/\BA nH S 8 V0 8 V' z' c'=true):=⟨hwl,by have:=NA (d+1);omega,by omega,hA,okA⟩
  obtain⟨r0,r1,r2⟩:=Z3.out.R.cells;have rf:=Z3.out.R.free;have rl:=Z3.out.R.lt;have hrn:(Value.slice (some ⟨g,0,none⟩) xs.length cg).ownBlock≠some br:=Am Z3.out.R HR.out (by decide);clear f k' hwl hlen hrow nwA hA okA s0 s1 a0 a1 a2 al1 al2;go_wp2_with fail;refine bodyPost_ret (v:=.tuple #[.slice (some ⟨g,0,none⟩) xs.length cg,.agg #[.slice (some ⟨gA,0,none⟩) 8 cA',.int .i64 z',.int .i64 c']]) (by simp[results,Tryz.results100,go_sem, *]) rfl ⟨g,cg,xs,gA,cA',V',z',c',rfl,RES.out.1,RES.out.2.1,Dj HR.out hrn _ _ _,RES.out.2.2.1,DY RES.out.2.2.2.1 hgbr _ _ _,RES.out.2.2.2.2,Ef Z3.out.F (by have:=BO.out;omega) _ _ _,EC Z3.out.K (by have:=BO.out;omega) _ _ _⟩
 go_wp2_with fail;refine(Aa p ao n cap 5 _ (by omega) X1.out.K).mono ?_;rintro e y2⟨im,rfl,im0,im5,f,k'⟩;have X2:Hid (Ep w p ao n cap bH cH nH S bR cR V0 bA cA V z c bs ba br y2):=X1.out.fw f k';clear f k' X1;go_upto_region 5 with fail
 obtain⟨y3,hy3,b3,o3⟩:∃y,y2.alloc (.cells #[.int .i64 1,.int .i64 2,.int .i64 (rr:Int),.int .i64 0,.int .i64 0,.int .i64 im,.int .i64 0,.int .i64 0,.int .i64 0,.int .i64 0,.int .i64 0,.int .i64 1,.int .i64 18,.int .i64 0,.int .i64 (rr:Int),.int .i64 0,.int .i64 0,.int .i64 0,.int .i64 0,.int .i64 0,.int .i64 0,.int .i64 0] 89)=y/\Below y2.heap.size y2 y/\y.ownsRow y2.heap.size 89 11 (.slice (some ⟨y2.heap.size,0,none⟩) 2 2) 2 (BZ [Fu rr im,E8 rr]):=⟨_,rfl,Ak,World.ownsRow_lit y2 (BZ [Fu rr im,E8 rr]).toArray 2 (Nat.le_refl _) (by unfold maxLen;omega) rfl⟩
 rw[hy3]
 have X3:Hid (Ep w p ao n cap bH cH nH S bR cR V0 bA cA V z c bs ba br y3):=X2.out.below b3
 have hw2:w.heap.size<=y2.heap.size:=X2.out.F.size
 have hbr2:br<y2.heap.size:=X2.out.R.lt
 obtain⟨fb,hfb⟩:=Ae (y2.heap.size)
 rw[hfb]at hw2 hbr2 o3⊢
 have O3:Hid (y3.ownsRow w.heap.size 89 11 (.slice (some ⟨fb,0,none⟩) [Fu rr im,E8 rr].length 2) [Fu rr im,E8 rr].length (BZ [Fu rr im,E8 rr])):=Au o3 hw2
 have hf3:fb<y3.heap.size:=(o3.lt _ rfl).2
 clear hy3 b3 o3 hfb X2
 go_cut [14](fun s14 wx=>∃(nb gB cB:Nat)(VB:Nat->VV)(zB qB:Int),s14=.pointer (some ⟨nb,0,none⟩)/\Below y3.heap.size y3 wx/\KV nH S V0 y3.heap.size nb gB cB VB zB qB wx)
 case first=>
  have FI:Hid (∀w':World,Below y3.heap.size y3 w'->∀i,i<22->w'.cell? ⟨fb,i,none⟩=(BZ [Fu rr im,E8 rr])[i]?):=fun w' h i hi=>(h.cell (p:=⟨fb,i,none⟩) hf3).trans (O3.out.cellAt i hi)
  have f1:∀w',Below y3.heap.size y3 w'->w'.cell? ⟨fb,1,none⟩=some (.int .i64 2):=fun w' h=>FI.out w' h 1 (by omega)
  have f2:∀w',Below y3.heap.size y3 w'->w'.cell? ⟨fb,2,none⟩=some (.int .i64 (rr:Int)):=fun w' h=>FI.out w' h 2 (by omega)
  have f3:∀w',Below y3.heap.size y3 w'->w'.cell? ⟨fb,3,none⟩=some (.int .i64 0):=fun w' h=>FI.out w' h 3 (by omega)
  have f4:∀w',Below y3.heap.size y3 w'->w'.cell? ⟨fb,4,none⟩=some (.int .i64 0):=fun w' h=>FI.out w' h 4 (by omega)
  have f5:∀w',Below y3.heap.size y3 w'->w'.cell? ⟨fb,5,none⟩=some (.int .i64 im):=fun w' h=>FI.out w' h 5 (by omega)
  have f6:∀w',Below y3.heap.size y3 w'->w'.cell? ⟨fb,6,none⟩=some (.int .i64 0):=fun w' h=>FI.out w' h 6 (by omega)
  have f12:∀w',Below y3.heap.size y3 w'->w'.cell? ⟨fb,12,none⟩=some (.int .i64 18):=fun w' h=>FI.out w' h 12 (by omega)
  have f13:∀w',Below y3.heap.size y3 w'->w'.cell? ⟨fb,13,none⟩=some (.int .i64 0):=fun w' h=>FI.out w' h 13 (by omega)
  have f14:∀w',Below y3.heap.size y3 w'->w'.cell? ⟨fb,14,none⟩=some (.int .i64 (rr:Int)):=fun w' h=>FI.out w' h 14 (by omega)
  have f15:∀w',Below y3.heap.size y3 w'->w'.cell? ⟨fb,15,none⟩=some (.int .i64 0):=fun w' h=>FI.out w' h 15 (by omega)
  have f16:∀w',Below y3.heap.size y3 w'->w'.cell? ⟨fb,16,none⟩=some (.int .i64 0):=fun w' h=>FI.out w' h 16 (by omega)
  have f17:∀w',Below y3.heap.size y3 w'->w'.cell? ⟨fb,17,none⟩=some (.int .i64 0):=fun w' h=>FI.out w' h 17 (by omega)
  have j0:∀w',Below y3.heap.size y3 w'->w'.cell? ⟨bs,0,none⟩=some (.slice (some ⟨bH,0,none⟩) nH cH):=fun w' h=>(X3.out.below h).cells.1.1
  have j1:∀w',Below y3.heap.size y3 w'->w'.cell? ⟨bs,1,none⟩=some (.slice (some ⟨bR,0,none⟩) 8 cR):=fun w' h=>(X3.out.below h).cells.1.2
  have j2:∀w',Below y3.heap.size y3 w'->w'.cell? ⟨ba,0,none⟩=some (.slice (some ⟨bA,0,none⟩) 8 cA):=fun w' h=>(X3.out.below h).cells.2.1.1
  have j3:∀w',Below y3.heap.size y3 w'->w'.cell? ⟨ba,1,none⟩=some (.int .i64 z):=fun w' h=>(X3.out.below h).cells.2.1.2.1
  have j4:∀w',Below y3.heap.size y3 w'->w'.cell? ⟨ba,2,none⟩=some (.int .i64 c):=fun w' h=>(X3.out.below h).cells.2.1.2.2
  have ff:∀(v:Value)(zz cc:Int)(w:World),(Instr.field 231 (.agg #[.int .i64 0,v,.int .i64 zz,.int .i64 cc]) 1).run Tryz.prog w=.ok (.agg #[v,.int .i64 zz,.int .i64 cc]) w:=fun v zz cc w=>by kernel_rfl
  refine wp_region_held_drew (S:=fun w'=>Below y3.heap.size y3 w') (by kernel_rfl) (Below.refl _ _).drew (fun _=>?_)
  refine AB 0 rfl ?_
  refine AB 1 rfl ?_
  refine AB 2 rfl ?_
  refine AB 3 rfl ?_
  refine AB 4 rfl ?_
  refine AB 5 rfl ?_
  refine AB 6 rfl ?_
  refine AB 9 rfl ?_
  refine AB 10 rfl ?_
  refine AB 11 rfl ?_
  refine AB 12 rfl ?_
  have hbd:Below y3.heap.size y3 y3.drew:=(Below.refl _ _).drew
  generalize y3.drew=t0 at hbd⊢
  refine wpAnyH_ready (rs:=[7,15]) (by kernel_rfl) (by simp) ?_
  refine AllReadyH.cons rfl (fun KK hK=>?_) (AllReadyH.cons rfl (fun KK hK=>?_) AllReadyH.nil)
  ·skip
   go_simp
   refine(Dt bH cH nH S bR cR 8 V0 bA cA 8 V z c 2 (rr:Int) 0 0 im 0 t0 (by have:=X3.out.lH;omega) (by omega) (by omega) (X3.out.below hbd).sc (X3.out.below hbd).G).mono ?_
   rintro e t1 htr
   obtain⟨g1,cg1,V1,z1,q1,rfl,ge1,A1,ok1,hb⟩:=Ox htr X3.out.ok (Ob rr7 im0 (by omega)) (Or.inl rfl)
   have hbd':Below y3.heap.size y3 t1:=hbd.trans (hb.mono hbd.size)
   refine hK.out _ _ hbd' (fun _=>?_)
   clear hK KK htr
   try simp only[Act.put,BP,BN,BK,BQ,BS,BM]
   refine AB 8 rfl ?_
   have sz1:=hbd.size
   clear hbd hb
   have hbd:=hbd'
   clear hbd'
   refine wpAnyH_ready (rs:=[13,15]) (by kernel_rfl) (by simp) ?_
   refine AllReadyH.cons rfl (fun KK hK=>?_) (AllReadyH.cons rfl (fun KK hK=>?_) AllReadyH.nil)
   ·skip
    go_simp
    refine(Dt bH cH nH S bR cR 8 V0 g1 cg1 8 V1 z1 q1 18 0 (rr:Int) 0 0 0 t1 (by have:=X3.out.lH;omega) (by omega) (by omega) (X3.out.below hbd).sc A1).mono ?_
    rintro e t2 htr
    obtain⟨g2,cg2,V2,z2,q2,rfl,ge2,A2,ok2,hb⟩:=Ox htr ok1 (JL rr7) (Or.inr (Or.inr rfl))
    have hbd':Below y3.heap.size y3 t2:=hbd.trans (hb.mono hbd.size)
    refine hK.out _ _ hbd' (fun _=>?_)
    clear hK KK htr
    try simp only[Act.put,BP,BN,BK,BQ,BS,BM]
    refine AB 14 rfl ?_
    have sz2:=hbd.size
    clear hbd hb
    have hbd:=hbd'
    clear hbd'
    refine AO 15 rfl (fun KK hK=>?_)
    go_simp
    refine hK.out _ _ (hbd.alloc hbd.size _) (fun _=>?_)
    clear hK KK
    try simp only[Act.put,BP,BN,BK,BQ,BS,BM]
    refine AO 16 rfl (fun KK hK=>?_)
    go_simp
    refine hK.out _ _ (hbd.alloc hbd.size _) (fun _=>?_)
    clear hK KK
    refine wpAnyH_done (by kernel_rfl) ?_ _
    have KK2:Hid (KV nH S V0 y3.heap.size t2.heap.size g2 cg2 V2 z2 q2 (t2.alloc (.cells #[.slice (some ⟨g2,0,none⟩) 8 cg2,.int .i64 z2,.int .i64 q2] 136))):=XF A2 ok2 (by omega) hbd.size
    have BB:Hid (Below y3.heap.size y3 (t2.alloc (.cells #[.slice (some ⟨g2,0,none⟩) 8 cg2,.int .i64 z2,.int .i64 q2] 136))):=hbd.alloc hbd.size _
    clear j0 j1 j2 j3 j4 f1 f2 f3 f4 f5 f6 f12 f13 f14 f15 f16 f17 ff
    go_wp2_with fail
    go_meet
    exact⟨_,g2,cg2,V2,z2,q2,rfl,BB.out,KK2.out⟩
   ·skip
    go_simp
    obtain⟨t4,ht4,bn⟩:∃y,t1.alloc (.cells #[.slice none 0 0,.int .i64 0,.int .i64 0] 136)=y/\Below t1.heap.size t1 y:=⟨_,rfl,Ak⟩
    have nz:=V3.new t1 136 (.slice none 0 0) (.int .i64 0) (.int .i64 0)
    rw[ht4]at nz⊢
    have hbd':Below y3.heap.size y3 t4:=hbd.trans (bn.mono hbd.size)
    have onp:=hbd.size
    have onl:=V3.lt nz
    obtain⟨nb,hnb⟩:=Ae (t1.heap.size)
    rw[hnb]at nz onp onl⊢
    refine hK.out _ _ hbd' (fun _=>?_)
    clear hK KK ht4
    try simp only[Act.put,BP,BN,BK,BQ,BS,BM]
    have A1':=A1.below bn A1.lt
    have hg1n:g1<nb:=by have:=A1.lt;omega
    clear A1
    have A1:=A1'
    clear A1'
    clear hbd bn hnb
    have hbd:=hbd'
    clear hbd'
    refine AO 13 rfl (fun KK hK=>?_)
    go_simp
    refine(Dt bH cH nH S bR cR 8 V0 g1 cg1 8 V1 z1 q1 18 0 (rr:Int) 0 0 0 t4 (by have:=X3.out.lH;omega) (by omega) (by omega) (X3.out.below hbd).sc A1).mono ?_
    rintro e t5 htr
    obtain⟨g2,cg2,V2,z2,q2,rfl,ge2,A2,ok2,hb⟩:=Ox htr ok1 (JL rr7) (Or.inr (Or.inr rfl))
    have hbd':Below y3.heap.size y3 t5:=hbd.trans (hb.mono hbd.size)
    refine hK.out _ _ hbd' (fun _=>?_)
    clear hK KK htr
    try simp only[Act.put,BP,BN,BK,BQ,BS,BM]
    refine AB 14 rfl ?_
    have sz2:=hbd.size
    have nlt2:=V3.lt nz
    have nz':=V3.below nz hb
    clear nz
    have nz:=nz'
    clear nz'
    clear hbd hb
    have hbd:=hbd'
    clear hbd'
    obtain⟨e0,e1,e2⟩:=V3.cells nz
    have ef:=V3.free nz
    have el:=V3.lt nz
    refine AO 16 rfl (fun KK hK=>?_)
    go_simp
    have hne:g2≠nb:=by omega
    refine hK.out _ _ ?hs (fun _=>?_)
    case hs=>
     exact((hbd.setCell (p:=⟨nb,0,none⟩) onp _).setCell (p:=⟨nb,1,none⟩) onp _).setCell (p:=⟨nb,2,none⟩) onp _
    clear hK KK
    refine wpAnyH_done (by kernel_rfl) ?_ _
    have KK2:Hid (KV nH S V0 y3.heap.size nb g2 cg2 V2 z2 q2 (((t5.setCell ⟨nb,0,none⟩ (.slice (some ⟨g2,0,none⟩) 8 cg2)).setCell ⟨nb,1,none⟩ (.int .i64 z2)).setCell ⟨nb,2,none⟩ (.int .i64 q2))):=O8 nz A2 ok2 (by omega) onp hne
    have BB:Hid (Below y3.heap.size y3 (((t5.setCell ⟨nb,0,none⟩ (.slice (some ⟨g2,0,none⟩) 8 cg2)).setCell ⟨nb,1,none⟩ (.int .i64 z2)).setCell ⟨nb,2,none⟩ (.int .i64 q2))):=((hbd.setCell (p:=⟨nb,0,none⟩) onp _).setCell (p:=⟨nb,1,none⟩) onp _).setCell (p:=⟨nb,2,none⟩) onp _
    clear j0 j1 j2 j3 j4 f1 f2 f3 f4 f5 f6 f12 f13 f14 f15 f16 f17 ff e0 e1 e2 ef el
    go_wp2_with fail
    go_meet
    exact⟨_,g2,cg2,V2,z2,q2,rfl,BB.out,KK2.out⟩
  ·skip
   go_simp
   obtain⟨t7,ht7,bn⟩:∃y,t0.alloc (.cells #[.slice none 0 0,.int .i64 0,.int .i64 0] 136)=y/\Below t0.heap.size t0 y:=⟨_,rfl,Ak⟩
   have nz:=V3.new t0 136 (.slice none 0 0) (.int .i64 0) (.int .i64 0)
   rw[ht7]at nz⊢
   have hbd':Below y3.heap.size y3 t7:=hbd.trans (bn.mono hbd.size)
   have onp:=hbd.size
   have onl:=V3.lt nz
   obtain⟨nb,hnb⟩:=Ae (t0.heap.size)
   rw[hnb]at nz onp onl⊢
   refine hK.out _ _ hbd' (fun _=>?_)
   clear hK KK ht7
   try simp only[Act.put,BP,BN,BK,BQ,BS,BM]
   clear hbd bn hnb
   have hbd:=hbd'
   clear hbd'
   refine AO 7 rfl (fun KK hK=>?_)
   go_simp
   refine(Dt bH cH nH S bR cR 8 V0 bA cA 8 V z c 2 (rr:Int) 0 0 im 0 t7 (by have:=X3.out.lH;omega) (by omega) (by omega) (X3.out.below hbd).sc (X3.out.below hbd).G).mono ?_
   rintro e t8 htr
   obtain⟨g1,cg1,V1,z1,q1,rfl,ge1,A1,ok1,hb⟩:=Ox htr X3.out.ok (Ob rr7 im0 (by omega)) (Or.inl rfl)
   have hbd':Below y3.heap.size y3 t8:=hbd.trans (hb.mono hbd.size)
   refine hK.out _ _ hbd' (fun _=>?_)
   clear hK KK htr
   try simp only[Act.put,BP,BN,BK,BQ,BS,BM]
   refine AB 8 rfl ?_
   have sz1:=hbd.size
   have nlt1:=V3.lt nz
   have nz':=V3.below nz hb
   clear nz
   have nz:=nz'
   clear nz'
   clear hbd hb
   have hbd:=hbd'
   clear hbd'
   refine AO 13 rfl (fun KK hK=>?_)
   go_simp
   refine(Dt bH cH nH S bR cR 8 V0 g1 cg1 8 V1 z1 q1 18 0 (rr:Int) 0 0 0 t8 (by have:=X3.out.lH;omega) (by omega) (by omega) (X3.out.below hbd).sc A1).mono ?_
   rintro e t9 htr
   obtain⟨g2,cg2,V2,z2,q2,rfl,ge2,A2,ok2,hb⟩:=Ox htr ok1 (JL rr7) (Or.inr (Or.inr rfl))
   have hbd':Below y3.heap.size y3 t9:=hbd.trans (hb.mono hbd.size)
   refine hK.out _ _ hbd' (fun _=>?_)
   clear hK KK htr
   try simp only[Act.put,BP,BN,BK,BQ,BS,BM]
   refine AB 14 rfl ?_
   have sz2:=hbd.size
   have nlt2:=V3.lt nz
   have nz':=V3.below nz hb
   clear nz
   have nz:=nz'
   clear nz'
   clear hbd hb
   have hbd:=hbd'
   clear hbd'
   obtain⟨e0,e1,e2⟩:=V3.cells nz
   have ef:=V3.free nz
   have el:=V3.lt nz
   refine AO 16 rfl (fun KK hK=>?_)
   go_simp
   have hne:g2≠nb:=by omega
   refine hK.out _ _ ?hs (fun _=>?_)
   case hs=>
    exact((hbd.setCell (p:=⟨nb,0,none⟩) onp _).setCell (p:=⟨nb,1,none⟩) onp _).setCell (p:=⟨nb,2,none⟩) onp _
   clear hK KK
   refine wpAnyH_done (by kernel_rfl) ?_ _
   have KK2:Hid (KV nH S V0 y3.heap.size nb g2 cg2 V2 z2 q2 (((t9.setCell ⟨nb,0,none⟩ (.slice (some ⟨g2,0,none⟩) 8 cg2)).setCell ⟨nb,1,none⟩ (.int .i64 z2)).setCell ⟨nb,2,none⟩ (.int .i64 q2))):=O8 nz A2 ok2 (by omega) onp hne
   have BB:Hid (Below y3.heap.size y3 (((t9.setCell ⟨nb,0,none⟩ (.slice (some ⟨g2,0,none⟩) 8 cg2)).setCell ⟨nb,1,none⟩ (.int .i64 z2)).setCell ⟨nb,2,none⟩ (.int .i64 q2))):=((hbd.setCell (p:=⟨nb,0,none⟩) onp _).setCell (p:=⟨nb,1,none⟩) onp _).setCell (p:=⟨nb,2,none⟩) onp _
   clear j0 j1 j2 j3 j4 f1 f2 f3 f4 f5 f6 f12 f13 f14 f15 f16 f17 ff e0 e1 e2 ef el
   go_wp2_with fail
   go_meet
   exact⟨_,g2,cg2,V2,z2,q2,rfl,BB.out,KK2.out⟩
 case rest=>
 obtain⟨nb,gB,cB,VB,zB,qB,rfl,hb,kv⟩:=hcut
 have KB:=hxy kv
 have X4:Hid (Ep w p ao n cap bH cH nH S bR cR V0 bA cA V z c bs ba br wc):=X3.out.below hb
 have O4:Hid (wc.ownsRow w.heap.size 89 11 (.slice (some ⟨fb,0,none⟩) [Fu rr im,E8 rr].length 2) [Fu rr im,E8 rr].length (BZ [Fu rr im,E8 rr])):=Ah O3.out hb
 have Z34:=hxy hb.size
 clear hb kv X3 O3
 generalize wc=y4 at KB X4 O4 Z34⊢
 obtain⟨b0,b1,b2⟩:=KB.out.N.cells
 have bl:=KB.out.N.lt
 go_wp2_with fail
 refine(H9 gB cB VB zB qB y4 KB.out.A).mono ?_
 rintro e y5⟨gI,cI,geI,rfl,hb,AI⟩
 have KI0:KV nH S V0 y3.heap.size y5.heap.size gI cI VB zB qB (y5.alloc (.cells #[.slice (some ⟨gI,0,none⟩) 8 cI,.int .i64 zB,.int .i64 qB] 136)):=XF AI KB.out.ok (by have:=Z34.out;omega) (by have:=Z34.out;have:=hb.size;omega)
 have bn:Below y5.heap.size y5 (y5.alloc (.cells #[.slice (some ⟨gI,0,none⟩) 8 cI,.int .i64 zB,.int .i64 qB] 136)):=Ak
 obtain⟨y6,hy6⟩:=Ae (y5.alloc (.cells #[.slice (some ⟨gI,0,none⟩) 8 cI,.int .i64 zB,.int .i64 qB] 136))
 rw[hy6]at KI0 bn
 have b46:Below y4.heap.size y4 y6:=hb.trans (bn.mono hb.size)
 have X6:Hid (Ep w p ao n cap bH cH nH S bR cR V0 bA cA V z c bs ba br y6):=X4.out.below b46
 have O6:Hid (y6.ownsRow w.heap.size 89 11 (.slice (some ⟨fb,0,none⟩) [Fu rr im,E8 rr].length 2) [Fu rr im,E8 rr].length (BZ [Fu rr im,E8 rr])):=Ah O4.out b46
 have KB6:Hid (KV nH S V0 y3.heap.size nb gB cB VB zB qB y6):=KB.out.below b46
 have gIl:=AI.lt
 have hgB:=KB.out.A.lt
 have hnb:=KB.out.N.lt
 have hf4:fb<y4.heap.size:=(O4.out.lt _ rfl).2
 have hb4:=hb.size
 go_upto_region 7 with fail
 obtain⟨ni,hni⟩:=Ae (y5.heap.size)
 rw[hni]at KI0 gIl⊢
 have KI:=hxy KI0
 have NE:Hid (gI≠ni/\gI≠gB/\gI≠nb/\gI≠fb/\ni≠gB/\ni≠nb/\ni≠fb/\y3.heap.size<=gI):=⟨by omega,by omega,by omega,by omega,by omega,by omega,by omega,by have:=Z34.out;omega⟩
 clear hy6 bn b46 hb AI KI0 KB X4 O4 b0 b1 b2 bl hni gIl hgB hnb hf4 hb4
 have X6g:Hid (gI≠br/\gI≠bA/\w.heap.size<=y3.heap.size/\br<y3.heap.size/\fb<y3.heap.size):=⟨by have:=NE.out;omega,by have:=NE.out;have:=LA.out;omega,by omega,by omega,hf3⟩
 go_cut [15](fun s15 wx=>s15=.pointer (some ⟨ni,0,none⟩)/\Ep w p ao n cap bH cH nH S bR cR V0 bA cA V z c bs ba br wx/\wx.ownsRow w.heap.size 89 11 (.slice (some ⟨fb,0,none⟩) [Fu rr im,E8 rr].length 2) [Fu rr im,E8 rr].length (BZ [Fu rr im,E8 rr])/\KV nH S V0 y3.heap.size nb gB cB VB zB qB wx/\∃VI,KV nH S V0 y3.heap.size ni gI cI VI zB qB wx)
 case first=>
  have j0:∀w',Tn (some gI) y6 w'->w'.cell? ⟨ni,0,none⟩=some (.slice (some ⟨gI,0,none⟩) 8 cI):=fun w' h=>(KI.out.N.tn h (by intro e;exact NE.out.1 (Option.some.inj e))).cells.1
  have hr8:(rr:Int)<8:=by omega
  refine wp_region_held_drew (S:=fun w'=>Tn (some gI) y6 w') (by kernel_rfl) (Tn.of (Below.refl _ _).drew) (fun _=>?_)
  refine AB 0 rfl ?_
  refine AB 1 rfl ?_
  refine AB 2 rfl ?_
  have hbd:Below y6.heap.size y6 y6.drew:=(Below.refl _ _).drew
  generalize y6.drew=t0 at hbd⊢
  refine AO 3 rfl (fun KK hK=>?_)
  go_simp
  refine(Ap false (-1) _).mono ?_
  rintro e t1⟨rfl,hb⟩
  have hB1:Below y6.heap.size y6 t1:=hbd.trans (hb.mono hbd.size)
  refine hK.out _ _ (Tn.of hB1) (fun _=>?_)
  clear hK KK hb hbd
  unfold VV.v
  try simp only[Act.put,BP,BN,BK,BQ,BS,BM]
  refine AB 4 rfl ?_
  have K1:=KI.out.below hB1
  have AR:=Jp K1.A (show rr<8 by omega) (Az false (-1))
  obtain⟨q0,q1,q2,q3,q4,q5⟩:=ML K1.A (show rr<8 by omega)
  have qf:=K1.A.free
  have ql:=K1.A.lt
  obtain⟨t2,ht2⟩:=Ae (put6 t1 gI (rr*6) (Az false (-1)))
  have E:Hid (Ep w p ao n cap bH cH nH S bR cR V0 bA cA V z c bs ba br t2/\t2.ownsRow w.heap.size 89 11 (.slice (some ⟨fb,0,none⟩) [Fu rr im,E8 rr].length 2) [Fu rr im,E8 rr].length (BZ [Fu rr im,E8 rr])/\KV nH S V0 y3.heap.size nb gB cB VB zB qB t2/\KV nH S V0 y3.heap.size ni gI cI (Eo VB rr (Az false (-1))) zB qB t2/\Tn (some gI) y6 t2):=(by
   have n1:=NE.out
   have n2:=X6g.out
   have r1:=Ah O6.out hB1
   have hfn:(Value.slice (some ⟨fb,0,none⟩) [Fu rr im,E8 rr].length 2).ownBlock≠some gI:=by intro e;have e1:fb=gI:=Option.some.inj e;omega
   have rw6:∀{v:World}(j:Nat)(x:Value),v.ownsRow w.heap.size 89 11 (.slice (some ⟨fb,0,none⟩) [Fu rr im,E8 rr].length 2) [Fu rr im,E8 rr].length (BZ [Fu rr im,E8 rr])->(v.setCell ⟨gI,j,none⟩ x).ownsRow w.heap.size 89 11 (.slice (some ⟨fb,0,none⟩) [Fu rr im,E8 rr].length 2) [Fu rr im,E8 rr].length (BZ [Fu rr im,E8 rr]):=fun j x h=>Cs h hfn j x
   have gx6:∀{v:World}(j:Nat)(x:Value),Ep w p ao n cap bH cH nH S bR cR V0 bA cA V z c bs ba br v->Ep w p ao n cap bH cH nH S bR cR V0 bA cA V z c bs ba br (v.setCell ⟨gI,j,none⟩ x):=fun j x h=>h.put (by omega) (by omega) j x
   have kb6:∀{v:World}(j:Nat)(x:Value),KV nH S V0 y3.heap.size nb gB cB VB zB qB v->KV nH S V0 y3.heap.size nb gB cB VB zB qB (v.setCell ⟨gI,j,none⟩ x):=fun j x h=>h.put (by omega) (by omega) j x
   have v36:∀{v:World}(j:Nat)(x:Value),V3 v ni 136 (.slice (some ⟨gI,0,none⟩) 8 cI) (.int .i64 zB) (.int .i64 qB)->V3 (v.setCell ⟨gI,j,none⟩ x) ni 136 (.slice (some ⟨gI,0,none⟩) 8 cI) (.int .i64 zB) (.int .i64 qB):=fun j x h=>h.put (by omega) j x
   have tn6:∀{v:World}(j:Nat)(x:Value),Tn (some gI) y6 v->Tn (some gI) y6 (v.setCell ⟨gI,j,none⟩ x):=fun j x h q hq hn=>(Below.heap_setCell _ ⟨gI,j,none⟩ x q (fun e=>hn (by rw[e]))).trans (h q hq hn)
   subst ht2
   unfold put6
   refine⟨gx6 _ _ (gx6 _ _ (gx6 _ _ (gx6 _ _ (gx6 _ _ (gx6 _ _ (X6.out.below hB1)))))),rw6 _ _ (rw6 _ _ (rw6 _ _ (rw6 _ _ (rw6 _ _ (rw6 _ _ r1))))),kb6 _ _ (kb6 _ _ (kb6 _ _ (kb6 _ _ (kb6 _ _ (kb6 _ _ (KB6.out.below hB1)))))),⟨v36 _ _ (v36 _ _ (v36 _ _ (v36 _ _ (v36 _ _ (v36 _ _ K1.N))))),?_,Ut K1.ok (I8 _ _ _) (DK.1 K1.ok).2.2.2.1 (DK.1 K1.ok).2.2.2.2,K1.ge,K1.gn⟩,tn6 _ _ (tn6 _ _ (tn6 _ _ (tn6 _ _ (tn6 _ _ (tn6 _ _ (Tn.of hB1))))))⟩
   unfold put6 at AR
   exact AR:Ep w p ao n cap bH cH nH S bR cR V0 bA cA V z c bs ba br t2/\t2.ownsRow w.heap.size 89 11 (.slice (some ⟨fb,0,none⟩) [Fu rr im,E8 rr].length 2) [Fu rr im,E8 rr].length (BZ [Fu rr im,E8 rr])/\KV nH S V0 y3.heap.size nb gB cB VB zB qB t2/\KV nH S V0 y3.heap.size ni gI cI (Eo VB rr (Az false (-1))) zB qB t2/\Tn (some gI) y6 t2)
  unfold put6 at ht2
  clear AR K1 hB1
  refine AO 5 rfl (fun KK hK=>?_)
  go_simp
  try rw[ht2]
  refine hK.out _ _ E.out.2.2.2.2 (fun _=>?_)
  clear hK KK ht2 j0 q0 q1 q2 q3 q4 q5 qf ql
  refine wpAnyH_done (by kernel_rfl) ?_ _
  go_wp2_with fail
  go_meet
  exact⟨rfl,E.out.1,E.out.2.1,E.out.2.2.1,_,E.out.2.2.2.1⟩
 case rest=>
 obtain⟨rfl,x7,o7,kb7,VI,ki7⟩:=hcut
 have NIN:Hid (ni≠nb/\ni≠gB):=⟨NE.out.2.2.2.2.2.1,NE.out.2.2.2.2.1⟩
 generalize wc=y7 at x7 o7 kb7 ki7⊢
 have L7:Hid (∀u xb,y7.heap.size<=xb->Below y7.heap.size y7 u->u.ownsRow y7.heap.size 89 11 (.slice (some ⟨xb,0,none⟩) 0 0) 0 (BZ [])->LQ w p ao n cap bH cH nH S bR cR V0 bA cA V z c bs ba br y3.heap.size fb 2 [Fu rr im,E8 rr] nb gB cB VB zB qB ni gI cI VI zB qB xb 0 [] u):=fun u xb hxb hb o=>by
  have n1:=NE.out
  have n2:=X6g.out
  have l1:fb<y7.heap.size:=(o7.lt fb rfl).2
  have l2:=kb7.A.lt
  have l3:=ki7.A.lt
  have l4:=x7.F.size
  exact⟨x7.below hb,Ah o7 hb,Au o l4,kb7.below hb,ki7.below hb,by omega,by omega,by omega,by have:=kb7.ge;omega,by omega,by omega,by omega,LA.out⟩
 have W7:=hxy x7.F.size
 clear x7 o7 kb7 ki7 X6 O6 KB6 KI
 obtain⟨dd,hdd⟩:∃dd:Nat,((rr:Int)-3)%4+4=(dd:Int):=⟨(((rr:Int)-3)%4+4).toNat,by omega⟩
 have dd7:dd<=7:=by omega
 go_upto_region 10 with fail
 obtain⟨y8,hy8,b8,lq8,m8⟩:∃y,(y7.alloc (.cells #[] 89)).alloc (.cells #[.int .i64 11,.int .i64 (dd:Int),.int .i64 (rr:Int),.int .i64 0,.int .i64 7,.int .i64 0] 87)=y/\Below y7.heap.size y7 y/\LQ w p ao n cap bH cH nH S bR cR V0 bA cA V z c bs ba br y3.heap.size fb 2 [Fu rr im,E8 rr] nb gB cB VB zB qB ni gI cI VI zB qB y7.heap.size 0 [] y/\Ib y (y7.heap.size+1) ⟨11,(dd:Int),(rr:Int),0,7,0⟩:=by
  have e1:(y7.alloc (.cells #[] 89)).heap.size=y7.heap.size+1:=by simp
  have o1:(y7.alloc (.cells #[] 89)).ownsRow y7.heap.size 89 11 (.slice (some ⟨y7.heap.size,0,none⟩) 0 0) 0 []:=World.ownsRow_lit y7 #[] 0 (Nat.le_refl _) (by unfold maxLen;omega) rfl
  have b1:Below y7.heap.size y7 ((y7.alloc (.cells #[] 89)).alloc (.cells #[.int .i64 11,.int .i64 (dd:Int),.int .i64 (rr:Int),.int .i64 0,.int .i64 7,.int .i64 0] 87)):=(Ak).alloc (by simp) _
  refine⟨_,rfl,b1,L7.out _ _ (Nat.le_refl _) b1 (Ah o1 (Ak)),?_⟩
  rw[<-e1]
  exact Bh _ _
 try rw[hy8]
 obtain⟨xb,hxb⟩:=Ae (y7.heap.size)
 obtain⟨nm,hnm⟩:=Ae (y7.heap.size+1)
 rw[hnm]at m8
 rw[hxb]at lq8
 try rw[hnm]
 try rw[hxb]
 have Q8:=hxy lq8
 have M8:=hxy m8
 have hpm:nm≠p:=by have:=W7.out;omega
 clear hy8 b8 lq8 m8 hxb hnm hdd L7
 go_cut [79](fun s79 wx=>∃b:Bool,s79=.bool b/\LQ w p ao n cap bH cH nH S bR cR V0 bA cA V z c bs ba br y3.heap.size fb 2 [Fu rr im,E8 rr] nb gB cB VB zB qB ni gI cI VI zB qB xb 0 [] wx/\Ib wx nm ⟨11,(dd:Int),(rr:Int),0,7,0⟩)
 case first=>
  go_wp2_with fail
  refine(Dh p ao n cap 2 _ (by omega) Q8.out.X.K).mono ?_
  rintro e y9⟨b9,rfl,f,k'⟩
  have Q9:Hid (LQ w p ao n cap bH cH nH S bR cR V0 bA cA V z c bs ba br y3.heap.size fb 2 [Fu rr im,E8 rr] nb gB cB VB zB qB ni gI cI VI zB qB xb 0 [] y9):=Q8.out.fw f k'
  have M9:Hid (Ib y9 nm ⟨11,(dd:Int),(rr:Int),0,7,0⟩):=M8.out.fw f hpm
  clear f k' Q8 M8
  obtain⟨m0,m1,m2,m3,m4,m5,mf,ml⟩:=M9.out.cells
  cases b9 with
  |false=>
   go_wp2_with fail
   go_meet
   exact⟨_,rfl,Q9.out,M9.out⟩
  |true=>
   go_wp2_with fail
   go_meet
   exact⟨_,rfl,Q9.out,M9.out⟩
 case rest=>
 obtain⟨b79,rfl,q9,m9⟩:=hcut
 generalize wc=y9 at q9 m9⊢
 have Q9:=hxy q9
 have M9:=hxy m9
 clear q9 m9 Q8 M8
 go_upto_if 79 with fail
 go_cut [16](fun s16 wx=>∃(xg xc:Nat)(xs:List SV)(gI cI:Nat)(VI:Nat->VV)(zI qI:Int),s16=.slice (some ⟨xg,0,none⟩) xs.length xc/\Wl xs/\xs.length<=1/\LQ w p ao n cap bH cH nH S bR cR V0 bA cA V z c bs ba br y3.heap.size fb 2 [Fu rr im,E8 rr] nb gB cB VB zB qB ni gI cI VI zI qI xg xc xs wx)
 case first=>
  cases b79 with
  |false=>
   go_wp2_with fail
   go_meet
   exact⟨xb,0,[],gI,cI,VI,zB,qB,rfl,.nil,by simp,Q9.out⟩
  |true=>
   obtain⟨m0,m1,m2,m3,m4,m5,mf,ml⟩:=M9.out.cells
   obtain⟨ms,hms⟩:∃ms:SV,MC ⟨11,(dd:Int),(rr:Int),0,7,0⟩=ms:=⟨_,rfl⟩
   obtain⟨t1,ht1,b1,o1⟩:∃y,y9.alloc (.cells #[.int .i64 1,.int .i64 11,.int .i64 (dd:Int),.int .i64 (rr:Int),.int .i64 0,.int .i64 7,.int .i64 0,.int .i64 0,.int .i64 0,.int .i64 0,.int .i64 0] 89)=y/\Below y9.heap.size y9 y/\y.ownsRow y9.heap.size 89 11 (.slice (some ⟨y9.heap.size,0,none⟩) [ms].length 1) [ms].length (BZ [ms]):=⟨_,rfl,Ak,by rw[ED,<-hms];exact World.ownsRow_lit y9 (CV (MC ⟨11,(dd:Int),(rr:Int),0,7,0⟩)).toArray 1 (Nat.le_refl _) (by unfold maxLen;omega) rfl⟩
   have Q10:=Q9.out.below b1
   obtain⟨g2,c2,t2,hrun,o2,hg2,hg2'⟩:=Dn t1 w.heap.size xb 0 [] Q10.Bo _ y9.heap.size 1 [ms] o1 (by simp) (by have:=Q10.X.F.size;omega)
   have Q11:Hid (LQ w p ao n cap bH cH nH S bR cR V0 bA cA V z c bs ba br y3.heap.size fb 2 [Fu rr im,E8 rr] nb gB cB VB zB qB ni gI cI VI zB qB g2 c2 ([]++[ms]) t2):=Q10.growX hg2 o2 hg2'
   have M11:Hid (Ib t2 nm ⟨11,(dd:Int),(rr:Int),0,7,0⟩):=BJ (M9.out.below b1) hg2 (Am (M9.out.below b1) Q10.Bo (by decide))
   have HMS:Hid (Wl ([]++[ms])):=(by rw[<-hms];exact XT _:Wl ([]++[ms]))
   clear Q10 o2 hg2 hms Q9 M9
   go_upto_region 12 with(first|(at_builtin;refine Bg rfl _ _ 36 rfl rfl rfl hrun ?_))
   clear hrun ht1 b1 o1 m0 m1 m2 m3 m4 m5 mf ml
   obtain⟨⟨s0,s1⟩,_,al1,al2⟩:=Q11.out.X.cells
   obtain⟨i0,i1,i2⟩:=Q11.out.KI.N.cells
   have il:=Q11.out.KI.N.lt
   obtain⟨m0,m1,m2,m3,m4,m5,mf,ml⟩:=M11.out.cells
   have ff:∀(v:Value)(zz cc:Int)(w:World),(Instr.field 231 (.agg #[.int .i64 0,v,.int .i64 zz,.int .i64 cc]) 1).run Tryz.prog w=.ok (.agg #[v,.int .i64 zz,.int .i64 cc]) w:=fun v zz cc w=>by kernel_rfl
   go_wp2_with fail
   refine(Dt bH cH nH S bR cR 8 V0 gI cI 8 VI zB qB 11 (dd:Int) (rr:Int) 0 7 0 t2 (by have:=Q11.out.X.lH;omega) (by omega) (by omega) Q11.out.X.sc Q11.out.KI.A).mono ?_
   rintro e t3 htr
   obtain⟨g5,cg5,V5,z5,q5,rfl,ge5,A5,ok5,hb⟩:=Ox htr Q11.out.KI.ok (T9 rr7 dd7) (Or.inr (Or.inl rfl))
   have Q12:=Q11.out.below hb
   have l1:fb<t2.heap.size:=(Q11.out.Fr.lt fb rfl).2
   have l2:g2<t2.heap.size:=(Q11.out.Bo.lt g2 rfl).2
   have l3:=Q11.out.KI.N.lt
   have l4:=Q11.out.KI.A.lt
   have l5:=Q11.out.KI.ge
   have Q13:Hid (LQ w p ao n cap bH cH nH S bR cR V0 bA cA V z c bs ba br y3.heap.size fb 2 [Fu rr im,E8 rr] nb gB cB VB zB qB ni g5 cg5 V5 z5 q5 g2 c2 ([]++[ms]) (((t3.setCell ⟨ni,0,none⟩ (.slice (some ⟨g5,0,none⟩) 8 cg5)).setCell ⟨ni,1,none⟩ (.int .i64 z5)).setCell ⟨ni,2,none⟩ (.int .i64 q5))):=Q12.putI A5 ok5 (by omega) (by omega) (by omega) (by omega) NIN.out.1 NIN.out.2
   obtain⟨n0,n1,n2⟩:=Q12.KI.N.cells
   have nf:=Q12.KI.N.free
   have nl:=Q12.KI.N.lt
   clear htr hb Q12 A5 ok5 s0 s1 al1 al2 i0 i1 i2 il m0 m1 m2 m3 m4 m5 mf ml Q11 M11 l1 l2 l3 l4 l5
   go_wp2_with fail
   go_meet
   exact⟨g2,c2,[]++[ms],g5,cg5,V5,z5,q5,rfl,HMS.out,by simp,Q13.out⟩
 case rest=>
 obtain⟨xg,xc,xs,gI,cI,VI,zI,qI,rfl,wlx,lenx,q10⟩:=hcut
 generalize wc=y10 at q10⊢
 have Q10:=hxy q10
 have WLX:Hid (Wl xs/\xs.length<=1):=⟨wlx,lenx⟩
 clear q10 wlx lenx Q9 M9
 go_upto_region 13 with fail
 go_cut [18](fun s18 wx=>∃(g cg:Nat)(ms:List SV)(np gA cA':Nat)(V':Nat->VV)(z' c':Int),s18=.slice (some ⟨g,0,none⟩) ms.length cg/\Wl ms/\ms.length<=4*gb d/\DR nH S V0 gI y10 p ao n cap g cg ms np gA cA' V' z' c' wx)
 case first=>
  have SS:∀w',Fw p y10 w'/\Bj w' p ao n cap->LQ w p ao n cap bH cH nH S bR cR V0 bA cA V z c bs ba br y3.heap.size fb 2 [Fu rr im,E8 rr] nb gB cB VB zB qB ni gI cI VI zI qI xg xc xs w':=fun w' h=>Q10.out.fw h.1 h.2
  have j0:∀w',Fw p y10 w'/\Bj w' p ao n cap->w'.cell? ⟨bs,0,none⟩=some (.slice (some ⟨bH,0,none⟩) nH cH):=fun w' h=>(SS w' h).X.cells.1.1
  have j1:∀w',Fw p y10 w'/\Bj w' p ao n cap->w'.cell? ⟨bs,1,none⟩=some (.slice (some ⟨bR,0,none⟩) 8 cR):=fun w' h=>(SS w' h).X.cells.1.2
  have j2:∀w',Fw p y10 w'/\Bj w' p ao n cap->w'.cell? ⟨ni,0,none⟩=some (.slice (some ⟨gI,0,none⟩) 8 cI):=fun w' h=>(SS w' h).KI.N.cells.1
  have j3:∀w',Fw p y10 w'/\Bj w' p ao n cap->w'.cell? ⟨ni,1,none⟩=some (.int .i64 zI):=fun w' h=>(SS w' h).KI.N.cells.2.1
  have j4:∀w',Fw p y10 w'/\Bj w' p ao n cap->w'.cell? ⟨ni,2,none⟩=some (.int .i64 qI):=fun w' h=>(SS w' h).KI.N.cells.2.2
  have hwd:IntKind.i64.wrap (d:Int)=(d:Int):=by rw[IntKind.wrap_i64]<;>omega
  have HSS:=hxy SS
  have hpu:p<y10.heap.size:=by have:=Q10.out.X.F.size;omega
  have hAu:gI<y10.heap.size:=Q10.out.KI.A.lt
  have hgIp:gI≠p:=by have:=Q10.out.KI.ge;have:=Q10.out.w1;omega
  clear SS
  refine wp_region_held_drew (S:=fun w'=>Fw p y10 w'/\Bj w' p ao n cap) (by kernel_rfl) ⟨.of_below (Below.refl _ _).drew,Q10.out.X.K.below (Below.refl _ _).drew⟩ (fun hH=>?_)
  refine AB 0 rfl ?_
  refine AB 1 rfl ?_
  refine AB 2 rfl ?_
  refine AB 3 rfl ?_
  refine AB 6 rfl ?_
  refine AB 7 rfl ?_
  refine AB 8 rfl ?_
  generalize y10.drew=t0 at hH⊢
  have q0:=hH
  clear hH
  refine wpAnyH_ready (rs:=[4,13]) (by kernel_rfl) (by simp) ?_
  refine AllReadyH.cons rfl (fun KK hK=>?_) (AllReadyH.cons rfl (fun KK hK=>?_) AllReadyH.nil)
  ·skip
   go_simp
   refine(Aa p ao n cap 4 _ (by omega) q0.2).mono ?_
   rintro e t1⟨md,rfl,md0,md1,f,k'⟩
   have q0':Fw p y10 t1/\Bj t1 p ao n cap:=⟨q0.1.trans f,k'⟩
   refine hK.out _ _ q0' (fun _=>?_)
   clear hK KK q0 f k'
   have q0:=q0'
   clear q0'
   obtain⟨mn,hmn⟩:∃mn:Nat,1+md=(mn:Int):=⟨(1+md).toNat,by omega⟩
   have hmn4:mn<=4:=by omega
   have hwm:IntKind.i64.wrap (mn:Int)=(mn:Int):=by rw[IntKind.wrap_i64]<;>omega
   try simp only[Act.put,BP,BN,BK,BQ,BS,BM]
   refine AB 5 rfl ?_
   try rw[hmn]
   clear hmn hwm
   refine wpAnyH_ready (rs:=[9,13]) (by kernel_rfl) (by simp) ?_
   refine AllReadyH.cons rfl (fun KK hK=>?_) (AllReadyH.cons rfl (fun KK hK=>?_) AllReadyH.nil)
   ·skip
    go_simp
    have gx:=HSS.out _ q0
    refine(IH p ao n cap bH cH nH S bR cR V0 gI cI VI zI qI mn _ _ (by omega) q0.2 gx.X.sc gx.KI.A gx.KI.ok gx.X.p1 gx.X.p2 hgIp).mono ?_
    rintro e t2⟨g,cg,ms,gA,cA',V',z',c',rfl,hwl,hlen,hrow,nwA,hA,okA,f,k'⟩
    have q0':Fw p y10 t2/\Bj t2 p ao n cap:=⟨q0.1.trans f,k'⟩
    refine hK.out _ _ q0' (fun _=>?_)
    clear hK KK
    try simp only[Act.put,BP,BN,BK,BQ,BS,BM]
    refine AB 10 rfl ?_
    refine AB 11 rfl ?_
    refine AB 12 rfl ?_
    have hlen':ms.length<=4*gb d:=Nat.le_trans hlen (Nat.mul_le_mul_right _ hmn4)
    have DD:Hid (DR nH S V0 gI y10 p ao n cap g cg ms t2.heap.size gA cA' V' z' c' (t2.alloc (.cells #[.slice (some ⟨gA,0,none⟩) 8 cA',.int .i64 z',.int .i64 c'] 136))):=Tf q0.1 hrow nwA hA okA f k'
    clear gx hlen hrow nwA hA okA f k' q0 j0 j1 j2 j3 j4
    refine AO 13 rfl (fun KK hK=>?_)
    go_simp
    refine hK.out _ _ ⟨q0'.1.trans (.of_below (Ak)),q0'.2.below (Ak)⟩ (fun _=>?_)
    clear hK KK
    try simp only[Act.put,BP,BN,BK,BQ,BS,BM]
    refine AB 14 rfl ?_
    refine AO 15 rfl (fun KK hK=>?_)
    go_simp
    refine hK.out _ _ ⟨DD.out.F,DD.out.K⟩ (fun _=>?_)
    clear hK KK q0'
    refine wpAnyH_done (by kernel_rfl) ?_ _
    go_wp2_with fail
    go_meet
    exact⟨g,cg,ms,_,gA,cA',V',z',c',rfl,hwl,hlen',DD.out⟩
   ·skip
    go_simp
    obtain⟨t4,ht4,bn⟩:∃y,t1.alloc (.cells #[.slice none 0 0,.int .i64 0,.int .i64 0] 136)=y/\Below t1.heap.size t1 y:=⟨_,rfl,Ak⟩
    have nz:=V3.new t1 136 (.slice none 0 0) (.int .i64 0) (.int .i64 0)
    rw[ht4]at nz⊢
    have q0':Fw p y10 t4/\Bj t4 p ao n cap:=⟨q0.1.trans (.of_below bn),q0.2.below bn⟩
    have onp:=q0.1.size
    obtain⟨np,hnp⟩:=Ae (t1.heap.size)
    rw[hnp]at nz onp⊢
    refine hK.out _ _ q0' (fun _=>?_)
    clear hK KK q0 ht4 bn hnp
    have q0:=q0'
    clear q0'
    try simp only[Act.put,BP,BN,BK,BQ,BS,BM]
    refine AO 9 rfl (fun KK hK=>?_)
    go_simp
    have gx:=HSS.out _ q0
    refine(IH p ao n cap bH cH nH S bR cR V0 gI cI VI zI qI mn _ _ (by omega) q0.2 gx.X.sc gx.KI.A gx.KI.ok gx.X.p1 gx.X.p2 hgIp).mono ?_
    rintro e t5⟨g,cg,ms,gA,cA',V',z',c',rfl,hwl,hlen,hrow,nwA,hA,okA,f,k'⟩
    have q0':Fw p y10 t5/\Bj t5 p ao n cap:=⟨q0.1.trans f,k'⟩
    refine hK.out _ _ q0' (fun _=>?_)
    clear hK KK
    try simp only[Act.put,BP,BN,BK,BQ,BS,BM]
    refine AB 10 rfl ?_
    refine AB 11 rfl ?_
    refine AB 12 rfl ?_
    refine AB 14 rfl ?_
    have hlen':ms.length<=4*gb d:=Nat.le_trans hlen (Nat.mul_le_mul_right _ hmn4)
    have DD:Hid (DR nH S V0 gI y10 p ao n cap g cg ms np gA cA' V' z' c' (((t5.setCell ⟨np,0,none⟩ (.slice (some ⟨gA,0,none⟩) 8 cA')).setCell ⟨np,1,none⟩ (.int .i64 z')).setCell ⟨np,2,none⟩ (.int .i64 c'))):=JI q0.1 hpu hAu nz onp hrow nwA hA okA f k'
    have nv:=CJ nz f (by omega)
    obtain⟨e0,e1,e2⟩:=V3.cells nv
    have ef:=V3.free nv
    have el:=V3.lt nv
    clear nv nz gx hlen hrow nwA hA okA f k' q0 j0 j1 j2 j3 j4
    refine AO 15 rfl (fun KK hK=>?_)
    go_simp
    refine hK.out _ _ ⟨DD.out.F,DD.out.K⟩ (fun _=>?_)
    clear hK KK q0'
    refine wpAnyH_done (by kernel_rfl) ?_ _
    go_wp2_with fail
    go_meet
    exact⟨g,cg,ms,_,gA,cA',V',z',c',rfl,hwl,hlen',DD.out⟩
  ·skip
   go_simp
   obtain⟨t7,ht7,bn⟩:∃y,t0.alloc (.cells #[.slice none 0 0,.int .i64 0,.int .i64 0] 136)=y/\Below t0.heap.size t0 y:=⟨_,rfl,Ak⟩
   have nz:=V3.new t0 136 (.slice none 0 0) (.int .i64 0) (.int .i64 0)
   rw[ht7]at nz⊢
   have q0':Fw p y10 t7/\Bj t7 p ao n cap:=⟨q0.1.trans (.of_below bn),q0.2.below bn⟩
   have onp:=q0.1.size
   obtain⟨np,hnp⟩:=Ae (t0.heap.size)
   rw[hnp]at nz onp⊢
   refine hK.out _ _ q0' (fun _=>?_)
   clear hK KK q0 ht7 bn hnp
   have q0:=q0'
   clear q0'
   try simp only[Act.put,BP,BN,BK,BQ,BS,BM]
   refine AO 4 rfl (fun KK hK=>?_)
   go_simp
   refine(Aa p ao n cap 4 _ (by omega) q0.2).mono ?_
   rintro e t8⟨md,rfl,md0,md1,f,k'⟩
   have q0':Fw p y10 t8/\Bj t8 p ao n cap:=⟨q0.1.trans f,k'⟩
   have nz':V3 t8 np 136 (.slice none 0 0) (.int .i64 0) (.int .i64 0):=CJ nz f (by omega)
   refine hK.out _ _ q0' (fun _=>?_)
   clear hK KK q0 f k' nz
   have q0:=q0'
   clear q0'
   obtain⟨mn,hmn⟩:∃mn:Nat,1+md=(mn:Int):=⟨(1+md).toNat,by omega⟩
   have hmn4:mn<=4:=by omega
   have hwm:IntKind.i64.wrap (mn:Int)=(mn:Int):=by rw[IntKind.wrap_i64]<;>omega
   try simp only[Act.put,BP,BN,BK,BQ,BS,BM]
   refine AB 5 rfl ?_
   try rw[hmn]
   clear hmn hwm
   have nz:=nz'
   clear nz'
   refine AO 9 rfl (fun KK hK=>?_)
   go_simp
   have gx:=HSS.out _ q0
   refine(IH p ao n cap bH cH nH S bR cR V0 gI cI VI zI qI mn _ _ (by omega) q0.2 gx.X.sc gx.KI.A gx.KI.ok gx.X.p1 gx.X.p2 hgIp).mono ?_
   rintro e t9⟨g,cg,ms,gA,cA',V',z',c',rfl,hwl,hlen,hrow,nwA,hA,okA,f,k'⟩
   have q0':Fw p y10 t9/\Bj t9 p ao n cap:=⟨q0.1.trans f,k'⟩
   refine hK.out _ _ q0' (fun _=>?_)
   clear hK KK
   try simp only[Act.put,BP,BN,BK,BQ,BS,BM]
   refine AB 10 rfl ?_
   refine AB 11 rfl ?_
   refine AB 12 rfl ?_
   refine AB 14 rfl ?_
   have hlen':ms.length<=4*gb d:=Nat.le_trans hlen (Nat.mul_le_mul_right _ hmn4)
   have DD:Hid (DR nH S V0 gI y10 p ao n cap g cg ms np gA cA' V' z' c' (((t9.setCell ⟨np,0,none⟩ (.slice (some ⟨gA,0,none⟩) 8 cA')).setCell ⟨np,1,none⟩ (.int .i64 z')).setCell ⟨np,2,none⟩ (.int .i64 c'))):=JI q0.1 hpu hAu nz onp hrow nwA hA okA f k'
   have nv:=CJ nz f (by omega)
   obtain⟨e0,e1,e2⟩:=V3.cells nv
   have ef:=V3.free nv
   have el:=V3.lt nv
   clear nv nz gx hlen hrow nwA hA okA f k' q0 j0 j1 j2 j3 j4
   refine AO 15 rfl (fun KK hK=>?_)
   go_simp
   refine hK.out _ _ ⟨DD.out.F,DD.out.K⟩ (fun _=>?_)
   clear hK KK q0'
   refine wpAnyH_done (by kernel_rfl) ?_ _
   go_wp2_with fail
   go_meet
   exact⟨g,cg,ms,_,gA,cA',V',z',c',rfl,hwl,hlen',DD.out⟩
 case rest=>
 obtain⟨mg,mc,ms,np,gA,cA',V',z',c',rfl,wlm,lenm,dr⟩:=hcut
 generalize wc=y11 at dr⊢
 have Q11:Hid (LQ w p ao n cap bH cH nH S bR cR V0 bA cA V z c bs ba br y3.heap.size fb 2 [Fu rr im,E8 rr] nb gB cB VB zB qB ni gI cI VI zI qI xg xc xs y11):=Q10.out.fw dr.F dr.K
 have RM:=hxy dr.row
 have WLM:Hid (Wl ms/\ms.length<=4*gb d):=⟨wlm,lenm⟩
 have HX10:Hid (xg<y10.heap.size/\fb<y10.heap.size):=⟨(Q10.out.Bo.lt xg rfl).2,(Q10.out.Fr.lt fb rfl).2⟩
 clear wlm lenm dr Q10
 have hgb:gb d<=1000:=Xz hd
 have hlx:xs.length<=1:=WLX.out.2
 have hlm:ms.length<=4*gb d:=WLM.out.2
 obtain⟨g2,c2,t1,hrun1,o1,hg1,hg1'⟩:=Dn y11 w.heap.size xg xc xs Q11.out.Bo _ mg mc ms RM.out (by omega) Q11.out.X.F.size
 obtain⟨zs,hzs⟩:=Ae (xs++ms)
 rw[hzs]at hrun1 o1
 have HZS:Hid (Wl zs/\zs.length<=1+4*gb d):=(by rw[<-hzs];exact⟨WLX.out.1.app WLM.out.1,by simp;omega⟩:Wl zs/\zs.length<=1+4*gb d)
 have Q12:Hid (LQ w p ao n cap bH cH nH S bR cR V0 bA cA V z c bs ba br y3.heap.size fb 2 [Fu rr im,E8 rr] nb gB cB VB zB qB ni gI cI VI zI qI g2 c2 zs t1):=Q11.out.growX hg1 o1 hg1'
 clear o1 hg1 hg1' Q11 RM hzs
 have hlz:zs.length<=1+4*gb d:=HZS.out.2
 go_upto_region 15 with(first|(at_builtin;refine Bg rfl _ _ 36 rfl rfl rfl hrun1 ?_))
 clear hrun1
 obtain⟨e1,he1⟩:∃e:SV,(⟨1,10,(rr:Int),(rr:Int),0,-1,0,0,0,0,0⟩:SV)=e:=⟨_,rfl⟩
 obtain⟨t2,ht2,b2,o2⟩:∃y,t1.alloc (.cells #[.int .i64 1,.int .i64 10,.int .i64 (rr:Int),.int .i64 (rr:Int),.int .i64 0,.int .i64 (-1),.int .i64 0,.int .i64 0,.int .i64 0,.int .i64 0,.int .i64 0,.int .i64 1,.int .i64 18,.int .i64 0,.int .i64 (rr:Int),.int .i64 0,.int .i64 0,.int .i64 0,.int .i64 0,.int .i64 0,.int .i64 0,.int .i64 0] 89)=y/\Below t1.heap.size t1 y/\y.ownsRow t1.heap.size 89 11 (.slice (some ⟨t1.heap.size,0,none⟩) [e1,E8 rr].length 2) [e1,E8 rr].length (BZ [e1,E8 rr]):=⟨_,rfl,Ak,by rw[<-he1];exact World.ownsRow_lit t1 (BZ [⟨1,10,(rr:Int),(rr:Int),0,-1,0,0,0,0,0⟩,E8 rr]).toArray 2 (Nat.le_refl _) (by unfold maxLen;omega) rfl⟩
 have Q13:=Q12.out.below b2
 obtain⟨g3,c3,t3,hrun2,o3,hg3,hg3'⟩:=Dn t2 w.heap.size g2 c2 zs Q13.Bo _ t1.heap.size 2 [e1,E8 rr] o2 (by simp;omega) Q13.X.F.size
 obtain⟨ys,hys⟩:=Ae (zs++[e1,E8 rr])
 rw[hys]at hrun2 o3
 have Q14:Hid (LQ w p ao n cap bH cH nH S bR cR V0 bA cA V z c bs ba br y3.heap.size fb 2 [Fu rr im,E8 rr] nb gB cB VB zB qB ni gI cI VI zI qI g3 c3 ys t3):=Q13.growX hg3 o3 hg3'
 have WLY:Hid (Wl ys/\ys.length<=3+4*gb d):=(by
  rw[<-hys]
  refine⟨HZS.out.1.app ?_,by simp;omega⟩
  rw[<-he1]
  exact .ins rfl rfl rfl (.ins rfl rfl rfl .nil):Wl ys/\ys.length<=3+4*gb d)
 clear Q13 o3 hg3 hg3' he1 Q12 o2 b2
 go_upto_region 16 with(first|(at_builtin;refine Bg rfl _ _ 36 rfl rfl rfl hrun2 ?_))
 clear hrun2 ht2 hys
 have hly:ys.length<=3+4*gb d:=WLY.out.2
 obtain⟨ws,hws⟩:∃e:SV,(⟨3,0,0,0,0,0,0,2,(ys.length:Int),0,0⟩:SV)=e:=⟨_,rfl⟩
 obtain⟨t4,ht4,b4,o4⟩:∃y,t3.alloc (.cells #[.int .i64 3,.int .i64 0,.int .i64 0,.int .i64 0,.int .i64 0,.int .i64 0,.int .i64 0,.int .i64 2,.int .i64 (ys.length:Int),.int .i64 0,.int .i64 0] 89)=y/\Below t3.heap.size t3 y/\y.ownsRow t3.heap.size 89 11 (.slice (some ⟨t3.heap.size,0,none⟩) [ws].length 1) [ws].length (BZ [ws]):=⟨_,rfl,Ak,by rw[ED,<-hws];exact World.ownsRow_lit t3 (CV ⟨3,0,0,0,0,0,0,2,(ys.length:Int),0,0⟩).toArray 1 (Nat.le_refl _) (by unfold maxLen;omega) rfl⟩
 have Q15:=Q14.out.below b4
 obtain⟨g5,c5,t5,hrun3,o5,hg5,hg5'⟩:=Dn t4 w.heap.size fb 2 [Fu rr im,E8 rr] Q15.Fr _ t3.heap.size 1 [ws] o4 (by simp) Q15.X.F.size
 obtain⟨fs3,hfs3⟩:=Ae ([Fu rr im,E8 rr]++[ws])
 rw[hfs3]at hrun3 o5
 have hlf:fs3.length=3:=by rw[<-hfs3];rfl
 have Q16:=Q15.growF hg5 o5 hg5'
 obtain⟨g6,c6,t6,hrun4,o6,hg6,hg6'⟩:=Dn t5 w.heap.size g5 c5 fs3 Q16.Fr _ g3 c3 ys Q16.Bo (by omega) Q16.X.F.size
 obtain⟨AL,hAL⟩:∃AL,fs3++ys=AL:=⟨_,rfl⟩
 rw[hAL]at hrun4 o6
 have Q17:Hid (LQ w p ao n cap bH cH nH S bR cR V0 bA cA V z c bs ba br y3.heap.size g6 c6 AL nb gB cB VB zB qB ni gI cI VI zI qI g3 c3 ys t6):=Q16.growF hg6 o6 hg6'
 have WLA:Hid (Wl AL/\AL.length<=gb (d+1)):=(by
  rw[<-hAL,<-hfs3]
  refine⟨?_,by show _<=6+5*gb d;have:=NA d;simp;omega⟩
  have:=Wl.node (s:=ws) (x:=ys) (y:=[]) (xs:=[]) (by rw[<-hws];show(3:Int)≠1;decide) (by rw[<-hws]) (by rw[<-hws];rfl) WLY.out.1 .nil .nil
  have h2:=Wl.ins (s:=E8 rr) rfl rfl rfl this
  have h1:=Wl.ins (s:=Fu rr im) rfl rfl rfl h2
  simpa using h1:Wl AL/\AL.length<=gb (d+1))
 clear Q15 Q16 o4 o5 o6 hg5 hg6 hg5' hg6' hws b4 Q14 hfs3 hlf
 go_upto_region 17 with(first|(at_builtin;refine Bg rfl _ _ 36 rfl rfl rfl hrun3 ?_)|(at_builtin;refine Bg rfl _ _ 36 rfl rfl rfl hrun4 ?_))
 clear hrun3 hrun4 ht4 hAL
 have hAl:AL.length<=1048576:=by have:=WLA.out.2;have h2:gb (d+1)=6+5*gb d:=rfl;omega
 obtain⟨⟨s0,s1⟩,⟨a0,a1,a2⟩,al1,al2⟩:=Q17.out.X.cells
 go_wp2_with fail
 refine(Qr AL hAl WLA.out.1 bH cH nH S bR cR V0 bA cA V z c 0 0 _ t6 (by have:=Q17.out.X.lH;omega) Q17.out.X.sc Q17.out.X.G Q17.out.X.ok (bU Q17.out.Fr) (by omega) (by omega)).mono ?_
 rintro e t7⟨err,at2,ao7,m7,cap7,z7,c7,r7,rfl,q70,q71,hab,hb⟩
 have yb:=QA (at':=at2) (rounds:=r7) hab
 have bn:Below t7.heap.size t7 (t7.alloc (.cells #[.int .i64 err,.int .i64 at2,.slice ao7 m7 cap7,.int .i64 z7,.int .i64 c7,.int .i64 r7] 238)):=Ak
 obtain⟨t8,ht8⟩:=Ae (t7.alloc (.cells #[.int .i64 err,.int .i64 at2,.slice ao7 m7 cap7,.int .i64 z7,.int .i64 c7,.int .i64 r7] 238))
 rw[ht8]at yb bn
 have Q18:Hid (LQ w p ao n cap bH cH nH S bR cR V0 bA cA V z c bs ba br y3.heap.size g6 c6 AL nb gB cB VB zB qB ni gI cI VI zI qI g3 c3 ys t8):=(Q17.out.below hb).below bn
 have hw6:=Q17.out.X.F.size
 have hbr6:br<t6.heap.size:=Q17.out.X.R.lt
 have hno6:=hb.size
 obtain⟨no,hno⟩:=Ae (t7.heap.size)
 rw[hno]at yb hno6
 have Y8:=hxy yb
 unfold DC
 go_upto_region 18 with fail
 try rw[hno]
 have hpno:p<no:=by omega
 have ZB:Hid (w.heap.size<=t6.heap.size/\br<t6.heap.size/\t6.heap.size<=no):=⟨hw6,hbr6,hno6⟩
 clear hb hab yb bn ht8 hno Q17 s0 s1 a0 a1 a2 al1 al2 hw6 hbr6 hno6
 go_cut [136](fun s136 wx=>∃b:Bool,s136=.bool b/\LQ w p ao n cap bH cH nH S bR cR V0 bA cA V z c bs ba br y3.heap.size g6 c6 AL nb gB cB VB zB qB ni gI cI VI zI qI g3 c3 ys wx/\YB nH S V0 bA t6.heap.size no err at2 ao7 m7 cap7 z7 c7 r7 wx)
 case first=>
  obtain⟨v0,v1,v2,v3,v4,v5,vf,vl⟩:=Y8.out.cells
  by_cases h0:err=0
  ·have e1:(err !=0)=false:=by simp[h0]
   clear h0
   go_wp2_with fail
   go_meet
   exact⟨_,rfl,Q18.out,Y8.out⟩
  ·have e1:(err !=0)=true:=by simp[h0]
   go_wp2_with fail
   refine(Aa p ao n cap 8 _ (by omega) Q18.out.X.K).mono ?_
   rintro e t9⟨y,rfl,y0,y8,f,k'⟩
   have Q19:Hid (LQ w p ao n cap bH cH nH S bR cR V0 bA cA V z c bs ba br y3.heap.size g6 c6 AL nb gB cB VB zB qB ni gI cI VI zI qI g3 c3 ys t9):=Q18.out.fw f k'
   have Y9:Hid (YB nH S V0 bA t6.heap.size no err at2 ao7 m7 cap7 z7 c7 r7 t9):=⟨CJ Y8.out.Y f (by omega),fun e=>by
    obtain⟨g,cg,V2,h1,h2,h3,h4,h5⟩:=Y8.out.ab e
    exact⟨g,cg,V2,h1,h2,h3,f.arr h4 (by have:=Q18.out.X.p3;have:=ZB.out;omega),h5⟩⟩
   clear f k' v0 v1 v2 v3 v4 v5 vf vl
   go_wp2_with fail
   go_meet
   exact⟨_,rfl,Q19.out,Y9.out⟩
 case rest=>
 obtain⟨b136,rfl,q19,y9'⟩:=hcut
 generalize wc=t9 at q19 y9'⊢
 have Q19:=hxy q19
 have Y9:=hxy y9'
 clear q19 y9' Q18 Y8
 cases b136 with
 |true=>
  have X9:=hxy Q19.out.X
  obtain⟨⟨s0,s1⟩,⟨a0,a1,a2⟩,al1,al2⟩:=X9.out.cells
  go_wp2_with fail
  refine(E5 p ao n cap bH cH nH S bR cR V0 bA cA V z c busy t9 X9.out.K X9.out.sc X9.out.G X9.out.ok X9.out.p1 X9.out.p2 X9.out.p3).mono ?_
  rintro e z3⟨g,cg,xs,gA,cA',V',z',c',rfl,hwl,hlen,hrow,nwA,hA,okA,f,k'⟩
  have Z3:Hid (Ep w p ao n cap bH cH nH S bR cR V0 bA cA V z c bs ba br z3):=X9.out.fw f k'
  have hs2:=X9.out.F.size
  have hbr2:=X9.out.R.lt
  have hn3:=X9.out.n3
  have hgbr:gA≠br:=by omega
  have HR:Hid (z3.ownsRow w.heap.size 89 11 (.slice (some ⟨g,0,none⟩) xs.length cg) xs.length (BZ xs)):=Au hrow hs2
  have RES:Hid (Wl xs/\xs.length<=gb (d+1)/\(gA=bA∨w.heap.size<=gA)/\A9 z3 gA (8*6) (vF V')/\BA nH S 8 V0 8 V' z' c'=true):=⟨hwl,by have:=NA (d+1);omega,by omega,hA,okA⟩
  obtain⟨r0,r1,r2⟩:=Z3.out.R.cells
  have rf:=Z3.out.R.free
  have rl:=Z3.out.R.lt
  have hrn:(Value.slice (some ⟨g,0,none⟩) xs.length cg).ownBlock≠some br:=Am Z3.out.R HR.out (by decide)
  clear f k' hwl hlen hrow nwA hA okA s0 s1 a0 a1 a2 al1 al2
  go_wp2_with fail
  refine bodyPost_ret (v:=.tuple #[.slice (some ⟨g,0,none⟩) xs.length cg,.agg #[.slice (some ⟨gA,0,none⟩) 8 cA',.int .i64 z',.int .i64 c']]) (by simp[results,Tryz.results100,go_sem, *]) rfl ⟨g,cg,xs,gA,cA',V',z',c',rfl,RES.out.1,RES.out.2.1,Dj HR.out hrn _ _ _,RES.out.2.2.1,DY RES.out.2.2.2.1 hgbr _ _ _,RES.out.2.2.2.2,Ef Z3.out.F (by have:=BO.out;omega) _ _ _,EC Z3.out.K (by have:=BO.out;omega) _ _ _⟩
 |false=>
  obtain⟨v0,v1,v2,v3,v4,v5,vf,vl⟩:=Y9.out.cells
  have R9:=Q19.out.X.R
  have hbr9:br<t9.heap.size:=R9.lt
  have hrn:(Value.slice (some ⟨g6,0,none⟩) AL.length c6).ownBlock≠some br:=Am R9 Q19.out.Fr (by decide)
  have FIN:Hid (∀(t:World)(gA cA':Nat)(V':Nat->VV)(z' c':Int),Below t9.heap.size t9 t->(gA=bA∨w.heap.size<=gA)->gA≠br->A9 t9 gA (8*6) (vF V')->BA nH S 8 V0 8 V' z' c'=true->Wi nH S V0 bA (gb (d+1)) w p ao n cap (.returned (.tuple #[.slice (some ⟨g6,0,none⟩) AL.length c6,.agg #[.slice (some ⟨gA,0,none⟩) 8 cA',.int .i64 z',.int .i64 c']])) (((t.setCell ⟨br,0,none⟩ (.slice (some ⟨gA,0,none⟩) 8 cA')).setCell ⟨br,1,none⟩ (.int .i64 z')).setCell ⟨br,2,none⟩ (.int .i64 c'))):=fun t gA cA' V' z' c' hb nw ne hA ok=>⟨g6,c6,AL,gA,cA',V',z',c',rfl,WLA.out.1,WLA.out.2,Dj (Ah Q19.out.Fr hb) hrn _ _ _,nw,DY (hA.below hb hA.lt) ne _ _ _,ok,Ef (Q19.out.X.below hb).F (by have:=BO.out;omega) _ _ _,EC (Q19.out.X.below hb).K (by have:=BO.out;omega) _ _ _⟩
  by_cases h0:err=0
  ·skip
   have e1:(err !=0)=false:=by simp[h0]
   obtain⟨gy,cgy,Uy,hvy,nwy,nny,Ay,oky⟩:=Y9.out.ab h0
   subst h0
   simp only[Value.slice.injEq]at hvy
   obtain⟨rfl,rfl,rfl⟩:=hvy
   have hgyb:gy≠br:=by have:=Q19.out.X.n3;have:=ZB.out;omega
   have hgyw:gy=bA∨w.heap.size<=gy:=by have:=ZB.out;omega
   have hnob:no≠br:=by have:=ZB.out;omega
   go_upto_region 22 with fail
   have j0:∀w',Tn (some br) t9 w'->w'.cell? ⟨no,2,none⟩=some (.slice (some ⟨gy,0,none⟩) 8 cap7):=fun w' h=>(World.cell?_of_block (a:=⟨no,2,none⟩) (h no vl (by intro e;exact hnob (Option.some.inj e).symm))).trans v2
   have j1:∀w',Tn (some br) t9 w'->w'.cell? ⟨no,3,none⟩=some (.int .i64 z7):=fun w' h=>(World.cell?_of_block (a:=⟨no,3,none⟩) (h no vl (by intro e;exact hnob (Option.some.inj e).symm))).trans v3
   have j2:∀w',Tn (some br) t9 w'->w'.cell? ⟨no,4,none⟩=some (.int .i64 c7):=fun w' h=>(World.cell?_of_block (a:=⟨no,4,none⟩) (h no vl (by intro e;exact hnob (Option.some.inj e).symm))).trans v4
   refine wp_region_held_drew (S:=fun w'=>Tn (some br) t9 w') (by kernel_rfl) (Tn.of (Below.refl _ _).drew) (fun _=>?_)
   refine AB 0 rfl ?_
   refine AB 1 rfl ?_
   refine AB 2 rfl ?_
   refine AB 3 rfl ?_
   refine AB 4 rfl ?_
   have hbd:Below t9.heap.size t9 t9.drew:=(Below.refl _ _).drew
   generalize t9.drew=t0 at hbd⊢
   have R0:=R9.below hbd
   obtain⟨r0,r1,r2⟩:=R0.cells
   have rf:=R0.free
   have rl:=R0.lt
   have RES:=FIN.out t0 gy cap7 Uy z7 c7 hbd hgyw hgyb Ay oky
   have RS:=hxy RES
   have TT:Hid (Tn (some br) t9 t0):=Tn.of hbd
   clear RES hbd R0 j0 j1 j2 v0 v1 v2 v3 v4 v5 vf vl
   refine AO 5 rfl (fun KK hK=>?_)
   go_simp
   refine hK.out _ _ (TT.out.set3 _ _ _) (fun _=>?_)
   clear hK KK
   refine wpAnyH_done (by kernel_rfl) ?_ _
   go_wp2_with fail
   refine bodyPost_ret (v:=.tuple #[.slice (some ⟨g6,0,none⟩) AL.length c6,.agg #[.slice (some ⟨gy,0,none⟩) 8 cap7,.int .i64 z7,.int .i64 c7]]) (by simp[results,Tryz.results100,go_sem, *]) rfl RS.out
  ·skip
   have e1:(err !=0)=true:=by simp[h0]
   have kb:=Q19.out.KB
   have hgbb:gB≠br:=by have:=kb.ge;have:=Q19.out.w2;omega
   have hgbw:gB=bA∨w.heap.size<=gB:=by have:=kb.ge;have:=Q19.out.w1;omega
   have hnbb:nb≠br:=by have:=kb.gn;have:=Q19.out.w2;omega
   go_upto_region 21 with fail
   have j0:∀w',Tn (some br) t9 w'->w'.cell? ⟨nb,0,none⟩=some (.slice (some ⟨gB,0,none⟩) 8 cB):=fun w' h=>(kb.N.tn h (by intro e;exact hnbb (Option.some.inj e).symm)).cells.1
   have j1:∀w',Tn (some br) t9 w'->w'.cell? ⟨nb,1,none⟩=some (.int .i64 zB):=fun w' h=>(kb.N.tn h (by intro e;exact hnbb (Option.some.inj e).symm)).cells.2.1
   have j2:∀w',Tn (some br) t9 w'->w'.cell? ⟨nb,2,none⟩=some (.int .i64 qB):=fun w' h=>(kb.N.tn h (by intro e;exact hnbb (Option.some.inj e).symm)).cells.2.2
   refine wp_region_held_drew (S:=fun w'=>Tn (some br) t9 w') (by kernel_rfl) (Tn.of (Below.refl _ _).drew) (fun _=>?_)
   refine AB 0 rfl ?_
   refine AB 1 rfl ?_
   refine AB 2 rfl ?_
   have hbd:Below t9.heap.size t9 t9.drew:=(Below.refl _ _).drew
   generalize t9.drew=t0 at hbd⊢
   have R0:=R9.below hbd
   obtain⟨r0,r1,r2⟩:=R0.cells
   have rf:=R0.free
   have rl:=R0.lt
   have RES:=FIN.out t0 gB cB VB zB qB hbd hgbw hgbb kb.A kb.ok
   have RS:=hxy RES
   have TT:Hid (Tn (some br) t9 t0):=Tn.of hbd
   clear RES hbd R0 j0 j1 j2 v0 v1 v2 v3 v4 v5 vf vl
   refine AO 3 rfl (fun KK hK=>?_)
   go_simp
   refine hK.out _ _ (TT.out.set3 _ _ _) (fun _=>?_)
   clear hK KK
   refine wpAnyH_done (by kernel_rfl) ?_ _
   go_wp2_with fail
   refine bodyPost_ret (v:=.tuple #[.slice (some ⟨g6,0,none⟩) AL.length c6,.agg #[.slice (some ⟨gB,0,none⟩) 8 cB,.int .i64 zB,.int .i64 qB]]) (by simp[results,Tryz.results100,go_sem, *]) rfl RS.out
end Go.Proofs.YtfpeecaaleijcaaGreatDoor
