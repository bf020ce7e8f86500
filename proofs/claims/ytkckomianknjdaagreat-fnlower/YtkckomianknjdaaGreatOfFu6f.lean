import Derived.Test.YtkckomianknjdaaGreatOfCoreF
import Derived.Test.YtkckomianknjdaaGreatFu6d
set_option maxHeartbeats 32000000
set_option maxRecDepth 20000
namespace Go.Proofs.YtkckomianknjdaaGreat
open Go.RowKit Go.Deep
variable {K c:Int}{B F L b cB g k n o:Nat}{S:Nat->HS}{M VB:Nat->VV}{R u w:World}
theorem BZ.grw{D:Option Nat}{f:Nat->Value}(h:BZ u b n f)(c:u.grownBy R D)(d:D≠some b):BZ R b n f:=
 ⟨DY h.lt c.size,fun i=>(World.frozen?_of_block (a:=Va b i) (c.block b h.lt (fun e=>d e.symm))).trans (h.free i),fun i j=>(World.cell?_of_block (a:=Va b i) (c.block b h.lt (fun e=>d e.symm))).trans (h.cell j)⟩
theorem Fh.grw{p:Nat}{U:Option Addr}{Y:Nat}{bH cH:Nat}{C cR:Nat}{bA cA:Nat}{V:Nat->VV}{z:Int}{I Q a:Nat}{u':World}(h:Fh w p U n Y bH cH o S C cR M bA cA V z c I Q a u)(d:u.grownBy u' (some g))(m:w.heap.size<=g)(s:g≠I)(x:g≠Q)(y:g≠a)(B:g≠bA):Fh w p U n Y bH cH o S C cR M bA cA V z c I Q a u':=by
 have j:∀{b:Nat},g≠b->(some g:Option Nat)≠some b:=fun q e=>q (Option.some.inj e)
 have D:=h.pw;exact⟨h.F.grown d (fun k l=>by have e:=Option.some.inj l;omega),h.K.grown d (fun k l=>by have e:=Option.some.inj l;omega),Bn h.sg d (j s),Bn h.A d (j x),Bn h.R d (j y),⟨h.sc.h.grw d (j (by have:=h.n1;omega)),h.sc.r.grw d (j (by have:=h.n2;omega))⟩,h.G.grw d (j B),h.ok,h.lH,h.pw,h.o1,h.o2,h.o3,h.n1,h.n2,h.n3,h.p1,h.p2,h.p3⟩
theorem D8{P:Program}{b:Array Oper}{E:List Oper}{o:Oper}{a:Act}{j:World}{Q:Exit->Act->World->Prop}(c:o.guard=none)(s x:Operand)(t:TypeId){v u I:Value}(e:o.op=.call {callee:=.builtin .append,args:=#[s,x],argTypes:=#[t,t]})(l:a.eval s=v)(m:a.eval x=u)(k:(Builtin.append_ #[t,t] o.type #[v,u]).run P w=.ok I j)(h:wpList P b Q E (a.put o.dst I) j):wpList P b Q (o::E) a w:=by
 refine wpList_plain c fun K d=>?_
 unfold Oper.wp execOp;simp only[e,resolve,invoke,builtin,Sem.run_bind,Sem.run_pure,Result.andThen_ok,List.map_toArray,List.map_cons,List.map_nil,l,m,k];exact d _ _ h
structure KV(nH:Nat)(S:Nat->HS)(V0:Nat->VV)(B nb gB cB:Nat)(VB:Nat->VV)(zB qB:Int)(u:World):Prop where
 N:V3 u nb 142 (Vs gB 8 cB) (Vi zB) (Vi qB)
 A:BZ u gB (8*6) (vF VB)
 ok:BQ nH S 8 V0 8 VB zB qB=true
 ge:B<=gB
 gn:B<=nb
theorem KV.below(h:KV o S M B F b cB VB c K u)(f:Below u.heap.size u R):KV o S M B F b cB VB c K R:=⟨h.N.below f,h.A.below f h.A.lt,h.ok,h.ge,h.gn⟩
theorem KV.fw{p:Nat}(h:KV o S M B F b cB VB c K u)(a:p<B)(f:Fw p u R):KV o S M B F b cB VB c K R:=⟨Ci h.N f (by have:=h.gn;omega),f.arr h.A (by have:=h.ge;omega),h.ok,h.ge,h.gn⟩
theorem KV.grw(h:KV o S M B F b cB VB c K u)(a:u.grownBy R (some g))(d:g≠F)(j:g≠b):KV o S M B F b cB VB c K R:=⟨Bn h.N a (fun e=>d (Option.some.inj e)),h.A.grw a (fun e=>j (Option.some.inj e)),h.ok,h.ge,h.gn⟩
theorem KV.put{q:Nat}(h:KV o S M B F b cB VB c K u)(a:q≠F)(d:q≠b)(j:Nat)(v:Value):KV o S M B F b cB VB c K (u.setCell (Va q j) v):=⟨BJ h.N (fun e=>a e.symm) _ _,h.A.other d _,h.ok,h.ge,h.gn⟩
theorem Oy{C:Int}(h:n<=7)(a:0<=C)(b:C<=5):Ar 2 (n:Int) 0 0 C 0=true:=by
 unfold Ar;simp only[show Cc 2 1=true by kernel_rfl,show Cc 2 2=false by kernel_rfl,show Cc 2 4=false by kernel_rfl,show Cc 2 8=true by kernel_rfl,show Cc 2 16=false by kernel_rfl,Da,Cv,DI];simp[Dm];omega
theorem Jp(h:n<=7):Ar 18 0 (n:Int) 0 0 0=true:=by
 unfold Ar;simp only[show Cc 18 1=false by kernel_rfl,show Cc 18 2=true by kernel_rfl,show Cc 18 4=false by kernel_rfl,show Cc 18 8=true by kernel_rfl,show Cc 18 16=false by kernel_rfl,Da,Cv,DI];simp[Dm];omega
theorem Tv{U:Nat}(h:n<=7)(a:U<=7):Ar 11 (U:Int) (n:Int) 0 7 0=true:=by
 unfold Ar;simp only[show Cc 11 1=true by kernel_rfl,show Cc 11 2=true by kernel_rfl,show Cc 11 4=false by kernel_rfl,show Cc 11 8=true by kernel_rfl,show Cc 11 16=false by kernel_rfl,Da,Cv,DI];simp[Dm];omega
theorem Oi{V:Nat->VV}{z Z d E C m h:Int}{j:World}{e:Ending}(t:kZ o S 8 M 8 V z c Z d E C m h w e j)(I:BQ o S 8 M 8 V z c=true)(B:Ar Z d E C m h=true)(n:Z=2∨Z=11∨Z=18):∃g l a k b,e=.returned (.agg #[Vi 0,Vs g 8 l,Vi k,Vi b])/\w.heap.size<=g/\BZ j g (8*6) (vF a)/\BQ o S 8 M 8 a k b=true/\Below w.heap.size w j:=by
 obtain⟨q,a,k,b,x,D,r,y⟩:=t;have p:=r I B n;subst p;rcases x with⟨F,_⟩|⟨_,g,l,s,u,n⟩
 ·exact absurd rfl F
 ·exact⟨g,l,a,k,b,u,s,n,D rfl,y⟩
theorem PO{x y q:Value}(N:V3 u F 142 x y q)(A:BZ u b (8*6) (vF VB))(h:BQ o S 8 M 8 VB c K=true)(a:B<=b)(d:B<=F)(e:b≠F):KV o S M B F b cB VB c K (((u.setCell (Va F 0) (Vs b 8 cB)).setCell (Va F 1) (Vi c)).setCell (Va F 2) (Vi K)):=
 ⟨N.set _ _ _,Dx A e _ _ _,h,a,d⟩
structure LQ(w:World)(p:Nat)(ao:Option Addr)(n cap:Nat)(bH cH nH:Nat)(S:Nat->HS)(bR cR:Nat)(V0:Nat->VV)(bA cA:Nat)(V:Nat->VV)(z c:Int)(bs ba br B fb fc:Nat)(fs:List SV)(nb gB cB:Nat)(VB:Nat->VV)(zB qB:Int)(ni gI cI:Nat)(VI:Nat->VV)(zI qI:Int)(xg xc:Nat)(xs:List SV)(u:World):Prop where
 X:Fh w p ao n cap bH cH nH S bR cR V0 bA cA V z c bs ba br u
 Fr:u.ownsRow w.heap.size 111 11 (Vs fb fs.length fc) fs.length (DL fs)
 Bo:u.ownsRow w.heap.size 111 11 (Vs xg xs.length xc) xs.length (DL xs)
 KB:KV nH S V0 B nb gB cB VB zB qB u
 KI:KV nH S V0 B ni gI cI VI zI qI u
 q1:xg≠fb
 q2:xg≠gB
 q3:xg≠gI
 q4:fb≠gB
 q5:fb≠gI
 w1:w.heap.size<=B
 w2:br<B
 la:bA<w.heap.size
section
variable{w:World}{p:Nat}{ao:Option Addr}{n cap:Nat}{bH cH nH:Nat}{S:Nat->HS}{bR cR:Nat}{V0:Nat->VV}{bA cA:Nat}{V:Nat->VV}{z c:Int}{bs ba br B fb fc:Nat}{fs:List SV}{nb gB cB:Nat}{VB:Nat->VV}{zB qB:Int}{ni gI cI:Nat}{VI:Nat->VV}{zI qI:Int}{xg xc:Nat}{xs:List SV}{u u':World}
theorem LQ.fw(h:LQ w p ao n cap bH cH nH S bR cR V0 bA cA V z c bs ba br B fb fc fs nb gB cB VB zB qB ni gI cI VI zI qI xg xc xs u)(f:Fw p u u')(k:CG u' p ao n cap):LQ w p ao n cap bH cH nH S bR cR V0 bA cA V z c bs ba br B fb fc fs nb gB cB VB zB qB ni gI cI VI zI qI xg xc xs u':=by
 have a:=h.X.pw;have b:=h.w1;exact⟨h.X.fw f k,EA h.Fr f a,EA h.Bo f a,h.KB.fw AB f,h.KI.fw AB f,h.q1,h.q2,h.q3,h.q4,h.q5,h.w1,h.w2,h.la⟩
theorem LQ.below(h:LQ w p ao n cap bH cH nH S bR cR V0 bA cA V z c bs ba br B fb fc fs nb gB cB VB zB qB ni gI cI VI zI qI xg xc xs u)(f:Below u.heap.size u u'):LQ w p ao n cap bH cH nH S bR cR V0 bA cA V z c bs ba br B fb fc fs nb gB cB VB zB qB ni gI cI VI zI qI xg xc xs u':=h.fw (.of_below f) (h.X.K.below f)
theorem LQ.growX(h:LQ w p ao n cap bH cH nH S bR cR V0 bA cA V z c bs ba br B fb fc fs nb gB cB VB zB qB ni gI cI VI zI qI xg xc xs u){ys:List SV}(d:u.grownBy u' (some xg))(o:u'.ownsRow w.heap.size 111 11 (Vs L ys.length k) ys.length (DL ys))(I:L=xg∨L=u.heap.size):LQ w p ao n cap bH cH nH S bR cR V0 bA cA V z c bs ba br B fb fc fs nb gB cB VB zB qB ni gI cI VI zI qI L k ys u':=by
 have j:=Fa h.Bo (q:=xg) rfl;have a:∀{b t:Nat}{D:Array Value},u.heap[b]?=some (.cells D t)->t≠111->xg≠b:=fun r l e=>Az r h.Bo l (by rw[e];rfl)
 have s:xg≠nb:=a h.KB.N Aa;have x:xg≠ni:=a h.KI.N Aa;have O:=h.la;have J:fb<u.heap.size:=(h.Fr.lt fb rfl).2;have K:gB<u.heap.size:=h.KB.A.lt;have M:gI<u.heap.size:=h.KI.A.lt;have Q:=h.q1;have y:=h.q2;have C:=h.q3;exact⟨h.X.grw d j (a h.X.sg Aa) (a h.X.A Aa) (a h.X.R Aa) AB,Kh h.Fr d (fun q m e=>by
  have E:fb=q:=Option.some.inj m;have F:xg=q:=Option.some.inj e;omega),o,h.KB.grw d s y,h.KI.grw d x C,AB,AB,AB,h.q4,h.q5,h.w1,h.w2,h.la⟩
theorem LQ.growF(h:LQ w p ao n cap bH cH nH S bR cR V0 bA cA V z c bs ba br B fb fc fs nb gB cB VB zB qB ni gI cI VI zI qI xg xc xs u){ys:List SV}(d:u.grownBy u' (some fb))(o:u'.ownsRow w.heap.size 111 11 (Vs L ys.length k) ys.length (DL ys))(I:L=fb∨L=u.heap.size):LQ w p ao n cap bH cH nH S bR cR V0 bA cA V z c bs ba br B L k ys nb gB cB VB zB qB ni gI cI VI zI qI xg xc xs u':=by
 have j:=Fa h.Fr (q:=fb) rfl;have a:∀{b t:Nat}{D:Array Value},u.heap[b]?=some (.cells D t)->t≠111->fb≠b:=fun r l e=>Az r h.Fr l (by rw[e];rfl)
 have s:fb≠nb:=a h.KB.N Aa;have x:fb≠ni:=a h.KI.N Aa;have O:=h.la;have J:xg<u.heap.size:=(h.Bo.lt xg rfl).2;have K:gB<u.heap.size:=h.KB.A.lt;have M:gI<u.heap.size:=h.KI.A.lt;have Q:=h.q1;have y:=h.q4;have C:=h.q5;exact⟨h.X.grw d j (a h.X.sg Aa) (a h.X.A Aa) (a h.X.R Aa) AB,o,Kh h.Bo d (fun q m e=>by
  have E:xg=q:=Option.some.inj m;have F:fb=q:=Option.some.inj e;omega),h.KB.grw d s y,h.KI.grw d x C,AB,h.q2,h.q3,AB,AB,h.w1,h.w2,h.la⟩
theorem LQ.putI(h:LQ w p ao n cap bH cH nH S bR cR V0 bA cA V z c bs ba br B fb fc fs nb gB cB VB zB qB ni gI cI VI zI qI xg xc xs u){b:Nat->VV}{z2 a:Int}(r:BZ u L (8*6) (vF b))(A:BQ nH S 8 V0 8 b z2 a=true)(o:B<=L)(s:L≠ni)(x:L≠fb)(y:L≠xg)(d:ni≠nb)(j:ni≠gB):LQ w p ao n cap bH cH nH S bR cR V0 bA cA V z c bs ba br B fb fc fs nb gB cB VB zB qB ni L k b z2 a xg xc xs (((u.setCell (Va ni 0) (Vs L 8 k)).setCell (Va ni 1) (Vi z2)).setCell (Va ni 2) (Vi a)):=by
 have q:=h.KI.gn;have D:=h.w1;have E:=h.w2;have C:=h.la;have l:(Vs fb fs.length fc).ownBlock≠some ni:=Az h.KI.N h.Fr Aa;have m:(Vs xg xs.length xc).ownBlock≠some ni:=Az h.KI.N h.Bo Aa;exact⟨((h.X.put AB AB _ _).put AB AB _ _).put AB AB _ _,EM h.Fr l _ _ _,EM h.Bo m _ _ _,((h.KB.put d j _ _).put d j _ _).put d j _ _,PO h.KI.N r A o q s,h.q1,h.q2,fun e=>y e.symm,h.q4,fun e=>x e.symm,h.w1,h.w2,h.la⟩
end
theorem Ze{e s c:Nat}{d:List Value}(h:w.ownsRow B e s (Vs g n c) n d):n<=c:=by
 rcases h.2 with⟨h,_⟩|⟨j,a,b,h,_,_,k,_⟩
 ·cases h
 ·have:c=a:=by simpa using(Value.slice.inj h).2.2
  omega
theorem iL{d:List SV}(h:w.ownsRow B 111 11 (Vs g d.length L) d.length (DL d)):SL w (Vs g d.length L) d:=
 ⟨_,L,rfl,Ze h,.inr ⟨g,0,rfl,(h.lt g rfl).2,fun i a=>by rw[Nat.zero_add,h.cellAt i a];exact PS d Xl i a⟩⟩
def Gy(rr:Nat)(im:Int):SV:=⟨1,2,(rr:Int),0,0,im,0,0,0,0,0⟩
def GL(rr:Nat):SV:=⟨1,18,0,(rr:Int),0,0,0,0,0,0,0⟩
theorem Wy(A:BZ u b (8*6) (vF VB))(e:BQ o S 8 M 8 VB c K=true)(a:B<=b)(d:B<=u.heap.size):KV o S M B u.heap.size b cB VB c K (u.alloc (.cells #[.slice (some ⟨b,0,none⟩) 8 cB,.int .i64 c,.int .i64 K] 142)):=
 ⟨V3.new _ _ _ _ _,A.below (Ah) A.lt,e,a,d⟩
theorem OO(d:Nat)(IH:Xq d)(hd:d<=3)(p:Nat)(O:Option Addr)(n B:Nat)(bH cH I:Nat)(S:Nat->HS)(bR cR:Nat)(L:Nat->VV)(bA cA:Nat)(V:Nat->VV)(z c aG:Int)(w:World)(hc:CG w p O n B)(h1:Dl w bH I S bR 8 L)(h2:BZ w bA (8*6) (vF V))(h3:BQ I S 8 L 8 V z c=true)(p1:bH≠p)(p2:bR≠p)(p3:bA≠p):
 Calls Tryz.prog 121 #[.pointer (some ⟨p,0,none⟩),.agg #[.slice (some ⟨bH,0,none⟩) I cH,.slice (some ⟨bR,0,none⟩) 8 cR],.agg #[.slice (some ⟨bA,0,none⟩) 8 cA,.int .i64 z,.int .i64 c],.int .i64 ((d+1:Nat):Int),.int .i64 aG] w (VT I S L bA (gb (d+1)) w p O n B):=by
 have X0:Hid (Fh w p O n B bH cH I S bR cR L bA cA V z c w.heap.size (w.heap.size+1) (w.heap.size+1+1) (((w.alloc (.cells #[.slice (some ⟨bH,0,none⟩) I cH,.slice (some ⟨bR,0,none⟩) 8 cR] 45)).alloc (.cells #[.slice (some ⟨bA,0,none⟩) 8 cA,.int .i64 z,.int .i64 c] 142)).alloc (.cells #[.slice none 0 0,.int .i64 0,.int .i64 0] 142))):=QD w hc h1 h2 h3 p1 p2 p3;have LA:=hxy h2.lt;have lp:=hc.lt;clear hc h1 h2 h3 p1 p2;go_enter Tryz.func121,Tryz.ntmps121;go_upto_region 1 with fail;obtain⟨u,hu⟩:=BG (((w.alloc (.cells #[.slice (some ⟨bH,0,none⟩) I cH,.slice (some ⟨bR,0,none⟩) 8 cR] 45)).alloc (.cells #[.slice (some ⟨bA,0,none⟩) 8 cA,.int .i64 z,.int .i64 c] 142)).alloc (.cells #[.slice none 0 0,.int .i64 0,.int .i64 0] 142));rw[hu]at X0⊢;obtain⟨bs,bh⟩:=BG (w.heap.size);obtain⟨ba,bN⟩:=BG (w.heap.size+1);obtain⟨U,bO⟩:=BG (w.heap.size+1+1);have X0:Hid (Fh w p O n B bH cH I S bR cR L bA cA V z c bs ba U u):=by rw[<-bh,<-bN,<-bO];exact X0
 rw[bO,bN,bh];have BO:Hid (w.heap.size=bs/\bs<ba/\ba<U):=⟨bh,AB,AB⟩
 clear hu bh bN bO;go_wp2_with fail;refine(AX p O n B 4 _ AB X0.K).mono ?_;rintro e y1⟨cd,rfl,dK,dL,f,k'⟩;have X1:Hid (Fh w p O n B bH cH I S bR cR L bA cA V z c bs ba U y1):=X0.fw f k';clear f k' X0;obtain⟨m,cP⟩:∃m:Nat,4+cd=(m:Int):=⟨(4+cd).toNat,AB⟩
 have d2:4<=m:=AB;have aO:m<=7:=AB;go_upto_region 2 with fail;try rw[cP]
 clear cP;by_cases dP:0<=aG
 ·skip
  have s0:=X1.cells;go_wp2_with fail;refine(Fz p O n B bH cH I S bR cR L bA cA V z c aG y1 X1.K X1.sc X1.G X1.ok X1.p1 X1.p2 X1.p3).mono ?_;rintro e z3⟨g,cg,xs,gA,aa,V',z',c',rfl,au,ag,ae,an,hA,al,f,k'⟩;have Z3:Hid (Fh w p O n B bH cH I S bR cR L bA cA V z c bs ba U z3):=X1.fw f k';have bW:=X1.F.size;have aW:=X1.R.lt;have dt:=X1.n3;have aY:gA≠U:=AB;have HR:Hid (z3.ownsRow w.heap.size 111 11 (.slice (some ⟨g,0,none⟩) xs.length cg) xs.length (DL xs)):=DT ae bW;have ah:Hid (Wl xs/\xs.length<=gb (d+1)/\(gA=bA∨w.heap.size<=gA)/\BZ z3 gA (8*6) (vF V')/\BQ I S 8 L 8 V' z' c'=true):=⟨au,by have:=NQ (d+1);omega,AB,hA,al⟩
  obtain⟨r0,r1,r2⟩:=Z3.R.cells;have rf:=Z3.R.free;have rl:=Z3.R.lt;have a4:(Value.slice (some ⟨g,0,none⟩) xs.length cg).ownBlock≠some U:=Az Z3.R HR Aa;clear f k' au ag ae an hA al s0;go_wp2_with fail;refine bodyPost_ret (v:=.tuple #[.slice (some ⟨g,0,none⟩) xs.length cg,.agg #[.slice (some ⟨gA,0,none⟩) 8 aa,.int .i64 z',.int .i64 c']]) (by simp[results,Tryz.results121,go_sem, *]) rfl ⟨g,cg,xs,gA,aa,V',z',c',rfl,ah.1,ah.2.1,EM HR a4 _ _ _,ah.2.2.1,Dx ah.2.2.2.1 aY _ _ _,ah.2.2.2.2,Fg Z3.F (by have:=BO.out;omega) _ _ _,Ep Z3.K (by have:=BO.out;omega) _ _ _⟩
 go_wp2_with fail;refine(AX p O n B 5 _ AB X1.K).mono ?_;rintro e y2⟨im,rfl,cY,dX,f,k'⟩;have X2:Hid (Fh w p O n B bH cH I S bR cR L bA cA V z c bs ba U y2):=X1.fw f k';clear f k' X1;go_upto_region 5 with fail;obtain⟨J,cV,b3,o3⟩:∃y,y2.alloc (.cells #[.int .i64 1,.int .i64 2,.int .i64 (m:Int),.int .i64 0,.int .i64 0,.int .i64 im,.int .i64 0,.int .i64 0,.int .i64 0,.int .i64 0,.int .i64 0,.int .i64 1,.int .i64 18,.int .i64 0,.int .i64 (m:Int),.int .i64 0,.int .i64 0,.int .i64 0,.int .i64 0,.int .i64 0,.int .i64 0,.int .i64 0] 111)=y/\Bw y2 y/\y.ownsRow y2.heap.size 111 11 (.slice (some ⟨y2.heap.size,0,none⟩) 2 2) 2 (DL [Gy m im,GL m]):=⟨_,rfl,Ah,World.ownsRow_lit y2 (DL [Gy m im,GL m]).toArray 2 (Nat.le_refl _) (by unfold maxLen;omega) rfl⟩
 rw[cV];have X3:Hid (Fh w p O n B bH cH I S bR cR L bA cA V z c bs ba U J):=X2.below b3;have cT:w.heap.size<=y2.heap.size:=X2.F.size;have aW:U<y2.heap.size:=X2.R.lt;obtain⟨fb,cy⟩:=BG (y2.heap.size);rw[cy]at cT aW o3⊢;have O3:Hid (J.ownsRow w.heap.size 111 11 (.slice (some ⟨fb,0,none⟩) [Gy m im,GL m].length 2) [Gy m im,GL m].length (DL [Gy m im,GL m])):=DT o3 cT;have cx:fb<J.heap.size:=(o3.lt _ rfl).2;clear cV b3 o3 cy X2;go_cut [14](fun dy wx=>∃(M gB cB:Nat)(VB:Nat->VV)(zB qB:Int),dy=.pointer (some ⟨M,0,none⟩)/\Bw J wx/\KV I S L J.heap.size M gB cB VB zB qB wx)
 case first=>
  have FI:Hid (∀k:World,Bw J k->∀i,i<22->k.cell? ⟨fb,i,none⟩=(DL [Gy m im,GL m])[i]?):=fun k h i hi=>(h.cell (p:=⟨fb,i,none⟩) cx).trans (O3.cellAt i hi)
  have f1:∀k,Bw J k->k.cell? ⟨fb,1,none⟩=some (.int .i64 2):=fun k h=>FI.out k h 1 AB
  have f2:∀k,Bw J k->k.cell? ⟨fb,2,none⟩=some (.int .i64 (m:Int)):=fun k h=>FI.out k h 2 AB
  have f3:∀k,Bw J k->k.cell? ⟨fb,3,none⟩=some (.int .i64 0):=fun k h=>FI.out k h 3 AB
  have f4:∀k,Bw J k->k.cell? ⟨fb,4,none⟩=some (.int .i64 0):=fun k h=>FI.out k h 4 AB
  have f5:∀k,Bw J k->k.cell? ⟨fb,5,none⟩=some (.int .i64 im):=fun k h=>FI.out k h 5 AB
  have f6:∀k,Bw J k->k.cell? ⟨fb,6,none⟩=some (.int .i64 0):=fun k h=>FI.out k h 6 AB
  have bE:∀k,Bw J k->k.cell? ⟨fb,12,none⟩=some (.int .i64 18):=fun k h=>FI.out k h 12 AB
  have bF:∀k,Bw J k->k.cell? ⟨fb,13,none⟩=some (.int .i64 0):=fun k h=>FI.out k h 13 AB
  have bG:∀k,Bw J k->k.cell? ⟨fb,14,none⟩=some (.int .i64 (m:Int)):=fun k h=>FI.out k h 14 AB
  have bI:∀k,Bw J k->k.cell? ⟨fb,15,none⟩=some (.int .i64 0):=fun k h=>FI.out k h 15 AB
  have bJ:∀k,Bw J k->k.cell? ⟨fb,16,none⟩=some (.int .i64 0):=fun k h=>FI.out k h 16 AB
  have bK:∀k,Bw J k->k.cell? ⟨fb,17,none⟩=some (.int .i64 0):=fun k h=>FI.out k h 17 AB
  have j0:∀k,Bw J k->k.cell? ⟨bs,0,none⟩=some (.slice (some ⟨bH,0,none⟩) I cH):=fun k h=>(X3.below h).cells.1.1
  have j1:∀k,Bw J k->k.cell? ⟨bs,1,none⟩=some (.slice (some ⟨bR,0,none⟩) 8 cR):=fun k h=>(X3.below h).cells.1.2
  have j2:∀k,Bw J k->k.cell? ⟨ba,0,none⟩=some (.slice (some ⟨bA,0,none⟩) 8 cA):=fun k h=>(X3.below h).cells.2.1.1
  have j3:∀k,Bw J k->k.cell? ⟨ba,1,none⟩=some (.int .i64 z):=fun k h=>(X3.below h).cells.2.1.2.1
  have j4:∀k,Bw J k->k.cell? ⟨ba,2,none⟩=some (.int .i64 c):=fun k h=>(X3.below h).cells.2.1.2.2
  have ff:∀(v:Value)(zz cc:Int)(w:World),(Instr.field 192 (.agg #[.int .i64 0,v,.int .i64 zz,.int .i64 cc]) 1).run Tryz.prog w=.ok (.agg #[v,.int .i64 zz,.int .i64 cc]) w:=fun v zz cc w=>by kernel_rfl
  refine wp_region_held_drew (S:=fun k=>Bw J k) Ab Al.drew (fun _=>?_);refine lM [0,1,2,3,4,5,6,9,10,11,12] ?_;have l:Bw J J.drew:=Al.drew;generalize J.drew=t0 at l⊢;refine wpAnyH_ready (rs:=[7,15]) Ab AY ?_;refine AllReadyH.cons rfl (fun KK D=>?_) (AllReadyH.cons rfl (fun KK D=>?_) AllReadyH.nil)
  ·skip
   go_simp;refine(Eb bH cH I S bR cR 8 L bA cA 8 V z c 2 (m:Int) 0 0 im 0 t0 (by have:=X3.lH;omega) AB AB (X3.below l).sc (X3.below l).G).mono ?_;rintro e t1 ai;obtain⟨g1,bg,V1,z1,q1,rfl,dj,A1,bk,hb⟩:=Oi ai X3.ok (Oy aO cY AB) (Or.inl rfl);have C:Bw J t1:=l.trans (hb.mono l.size);refine D.out _ _ C (fun _=>?_);clear D KK ai;refine BV ?_;refine Ao 8 ?_;have dE:=l.size;clear l hb;have l:=C;clear C;refine wpAnyH_ready (rs:=[13,15]) Ab AY ?_;refine AllReadyH.cons rfl (fun KK D=>?_) (AllReadyH.cons rfl (fun KK D=>?_) AllReadyH.nil)
   ·skip
    go_simp;refine(Eb bH cH I S bR cR 8 L g1 bg 8 V1 z1 q1 18 0 (m:Int) 0 0 0 t1 (by have:=X3.lH;omega) AB AB (X3.below l).sc A1).mono ?_;rintro e t2 ai;obtain⟨g2,ak,V2,z2,q2,rfl,cu,A2,a8,hb⟩:=Oi ai bk (Jp aO) (Or.inr (Or.inr rfl));have C:Bw J t2:=l.trans (hb.mono l.size);refine D.out _ _ C (fun _=>?_);clear D KK ai;refine BV ?_;refine Ao 14 ?_;have da:=l.size;clear l hb;have l:=C;clear C;refine AO 15 rfl (fun KK D=>?_);go_simp;refine D.out _ _ (l.alloc l.size _) (fun _=>?_);clear D KK;refine BV ?_;refine AO 16 rfl (fun KK D=>?_);go_simp;refine D.out _ _ (l.alloc l.size _) (fun _=>?_);clear D KK;refine wpAnyH_done Ab ?_ _;have aS:Hid (KV I S L J.heap.size t2.heap.size g2 ak V2 z2 q2 (t2.alloc (.cells #[.slice (some ⟨g2,0,none⟩) 8 ak,.int .i64 z2,.int .i64 q2] 142))):=Wy A2 a8 AB l.size;have BB:Hid (Bw J (t2.alloc (.cells #[.slice (some ⟨g2,0,none⟩) 8 ak,.int .i64 z2,.int .i64 q2] 142))):=l.alloc l.size _;clear j0 j1 j2 j3 j4 f1 f2 f3 f4 f5 f6 bE bF bG bI bJ bK ff;go_wp2_with fail;go_meet;exact⟨_,g2,ak,V2,z2,q2,rfl,BB,aS⟩
   ·skip
    go_simp;obtain⟨t4,aF,bn⟩:∃y,t1.alloc (.cells #[.slice none 0 0,.int .i64 0,.int .i64 0] 142)=y/\Bw t1 y:=⟨_,rfl,Ah⟩
    have nz:=V3.new t1 142 (.slice none 0 0) (.int .i64 0) (.int .i64 0);rw[aF]at nz⊢;have C:Bw J t4:=l.trans (bn.mono l.size);have ac:=l.size;have b6:=V3.lt nz;obtain⟨M,aA⟩:=BG (t1.heap.size);rw[aA]at nz ac b6⊢;refine D.out _ _ C (fun _=>?_);clear D KK aF;refine BV ?_;have ce:=A1.below bn A1.lt;have dH:g1<M:=by have:=A1.lt;omega
    clear A1;have A1:=ce;clear ce;clear l bn aA;have l:=C;clear C;refine AO 13 rfl (fun KK D=>?_);go_simp;refine(Eb bH cH I S bR cR 8 L g1 bg 8 V1 z1 q1 18 0 (m:Int) 0 0 0 t4 (by have:=X3.lH;omega) AB AB (X3.below l).sc A1).mono ?_;rintro e t5 ai;obtain⟨g2,ak,V2,z2,q2,rfl,cu,A2,a8,hb⟩:=Oi ai bk (Jp aO) (Or.inr (Or.inr rfl));have C:Bw J t5:=l.trans (hb.mono l.size);refine D.out _ _ C (fun _=>?_);clear D KK ai;refine BV ?_;refine Ao 14 ?_;have da:=l.size;have cZ:=V3.lt nz;have av:=V3.below nz hb;clear nz;have nz:=av;clear av;clear l hb;have l:=C;clear C;obtain⟨e0,e1,e2⟩:=V3.cells nz;have ef:=V3.free nz;have el:=V3.lt nz;refine AO 16 rfl (fun KK D=>?_);go_simp;have bT:g2≠M:=AB;refine D.out _ _ ?hs (fun _=>?_)
    case hs=>
     exact((l.setCell (p:=⟨M,0,none⟩) ac _).setCell (p:=⟨M,1,none⟩) ac _).setCell (p:=⟨M,2,none⟩) ac _
    clear D KK;refine wpAnyH_done Ab ?_ _;have aS:Hid (KV I S L J.heap.size M g2 ak V2 z2 q2 (((t5.setCell ⟨M,0,none⟩ (.slice (some ⟨g2,0,none⟩) 8 ak)).setCell ⟨M,1,none⟩ (.int .i64 z2)).setCell ⟨M,2,none⟩ (.int .i64 q2))):=PO nz A2 a8 AB ac bT;have BB:Hid (Bw J (((t5.setCell ⟨M,0,none⟩ (.slice (some ⟨g2,0,none⟩) 8 ak)).setCell ⟨M,1,none⟩ (.int .i64 z2)).setCell ⟨M,2,none⟩ (.int .i64 q2))):=((l.setCell (p:=⟨M,0,none⟩) ac _).setCell (p:=⟨M,1,none⟩) ac _).setCell (p:=⟨M,2,none⟩) ac _;clear j0 j1 j2 j3 j4 f1 f2 f3 f4 f5 f6 bE bF bG bI bJ bK ff e0 e1 e2 ef el;go_wp2_with fail;go_meet;exact⟨_,g2,ak,V2,z2,q2,rfl,BB,aS⟩
  ·skip
   go_simp;obtain⟨t7,a5,bn⟩:∃y,t0.alloc (.cells #[.slice none 0 0,.int .i64 0,.int .i64 0] 142)=y/\Bw t0 y:=⟨_,rfl,Ah⟩
   have nz:=V3.new t0 142 (.slice none 0 0) (.int .i64 0) (.int .i64 0);rw[a5]at nz⊢;have C:Bw J t7:=l.trans (bn.mono l.size);have ac:=l.size;have b6:=V3.lt nz;obtain⟨M,aA⟩:=BG (t0.heap.size);rw[aA]at nz ac b6⊢;refine D.out _ _ C (fun _=>?_)
   clear D KK a5
   refine BV ?_
   clear l bn aA
   have l:=C
   clear C
   refine AO 7 rfl (fun KK D=>?_)
   go_simp
   refine(Eb bH cH I S bR cR 8 L bA cA 8 V z c 2 (m:Int) 0 0 im 0 t7 (by have:=X3.lH;omega) AB AB (X3.below l).sc (X3.below l).G).mono ?_
   rintro e t8 ai
   obtain⟨g1,bg,V1,z1,q1,rfl,dj,A1,bk,hb⟩:=Oi ai X3.ok (Oy aO cY AB) (Or.inl rfl)
   have C:Bw J t8:=l.trans (hb.mono l.size)
   refine D.out _ _ C (fun _=>?_)
   clear D KK ai
   refine BV ?_
   refine Ao 8 ?_
   have dE:=l.size
   have dJ:=V3.lt nz
   have av:=V3.below nz hb
   clear nz
   have nz:=av
   clear av
   clear l hb
   have l:=C
   clear C
   refine AO 13 rfl (fun KK D=>?_)
   go_simp
   refine(Eb bH cH I S bR cR 8 L g1 bg 8 V1 z1 q1 18 0 (m:Int) 0 0 0 t8 (by have:=X3.lH;omega) AB AB (X3.below l).sc A1).mono ?_
   rintro e t9 ai
   obtain⟨g2,ak,V2,z2,q2,rfl,cu,A2,a8,hb⟩:=Oi ai bk (Jp aO) (Or.inr (Or.inr rfl))
   have C:Bw J t9:=l.trans (hb.mono l.size)
   refine D.out _ _ C (fun _=>?_)
   clear D KK ai
   refine BV ?_
   refine Ao 14 ?_
   have da:=l.size
   have cZ:=V3.lt nz
   have av:=V3.below nz hb
   clear nz
   have nz:=av
   clear av
   clear l hb
   have l:=C
   clear C
   obtain⟨e0,e1,e2⟩:=V3.cells nz
   have ef:=V3.free nz
   have el:=V3.lt nz
   refine AO 16 rfl (fun KK D=>?_)
   go_simp
   have bT:g2≠M:=AB
   refine D.out _ _ ?hs (fun _=>?_)
   case hs=>
    exact((l.setCell (p:=⟨M,0,none⟩) ac _).setCell (p:=⟨M,1,none⟩) ac _).setCell (p:=⟨M,2,none⟩) ac _
   clear D KK
   refine wpAnyH_done Ab ?_ _
   have aS:Hid (KV I S L J.heap.size M g2 ak V2 z2 q2 (((t9.setCell ⟨M,0,none⟩ (.slice (some ⟨g2,0,none⟩) 8 ak)).setCell ⟨M,1,none⟩ (.int .i64 z2)).setCell ⟨M,2,none⟩ (.int .i64 q2))):=PO nz A2 a8 AB ac bT
   have BB:Hid (Bw J (((t9.setCell ⟨M,0,none⟩ (.slice (some ⟨g2,0,none⟩) 8 ak)).setCell ⟨M,1,none⟩ (.int .i64 z2)).setCell ⟨M,2,none⟩ (.int .i64 q2))):=((l.setCell (p:=⟨M,0,none⟩) ac _).setCell (p:=⟨M,1,none⟩) ac _).setCell (p:=⟨M,2,none⟩) ac _
   clear j0 j1 j2 j3 j4 f1 f2 f3 f4 f5 f6 bE bF bG bI bJ bK ff e0 e1 e2 ef el
   go_wp2_with fail
   go_meet
   exact⟨_,g2,ak,V2,z2,q2,rfl,BB,aS⟩
 case rest=>
 obtain⟨M,gB,cB,VB,zB,qB,rfl,hb,kv⟩:=hcut
 have KB:=hxy kv
 have X4:Hid (Fh w p O n B bH cH I S bR cR L bA cA V z c bs ba U wc):=X3.below hb
 have O4:Hid (wc.ownsRow w.heap.size 111 11 (.slice (some ⟨fb,0,none⟩) [Gy m im,GL m].length 2) [Gy m im,GL m].length (DL [Gy m im,GL m])):=Aw O3 hb
 have bd:=hxy hb.size
 clear hb kv X3 O3
 generalize wc=y4 at KB X4 O4 bd⊢
 obtain⟨b0,b1,b2⟩:=KB.N.cells
 have bl:=KB.N.lt
 go_wp2_with fail
 refine(JJ gB cB VB zB qB y4 KB.A).mono ?_
 rintro e y5⟨Q,cI,dO,rfl,hb,AI⟩
 have a9:KV I S L J.heap.size y5.heap.size Q cI VB zB qB (y5.alloc (.cells #[.slice (some ⟨Q,0,none⟩) 8 cI,.int .i64 zB,.int .i64 qB] 142)):=Wy AI KB.ok (by have:=bd.out;omega) (by have:=bd.out;have:=hb.size;omega)
 have bn:Bw y5 (y5.alloc (.cells #[.slice (some ⟨Q,0,none⟩) 8 cI,.int .i64 zB,.int .i64 qB] 142)):=Ah
 obtain⟨y6,cW⟩:=BG (y5.alloc (.cells #[.slice (some ⟨Q,0,none⟩) 8 cI,.int .i64 zB,.int .i64 qB] 142))
 rw[cW]at a9 bn
 have bf:Bw y4 y6:=hb.trans (bn.mono hb.size)
 have X6:Hid (Fh w p O n B bH cH I S bR cR L bA cA V z c bs ba U y6):=X4.below bf
 have O6:Hid (y6.ownsRow w.heap.size 111 11 (.slice (some ⟨fb,0,none⟩) [Gy m im,GL m].length 2) [Gy m im,GL m].length (DL [Gy m im,GL m])):=Aw O4 bf
 have cj:Hid (KV I S L J.heap.size M gB cB VB zB qB y6):=KB.below bf
 have ct:=AI.lt
 have dq:=KB.A.lt
 have aA:=KB.N.lt
 have dn:fb<y4.heap.size:=(O4.lt _ rfl).2
 have dl:=hb.size
 go_upto_region 7 with fail
 obtain⟨ni,cN⟩:=BG (y5.heap.size)
 rw[cN]at a9 ct⊢
 have KI:=hxy a9
 have NE:Hid (Q≠ni/\Q≠gB/\Q≠M/\Q≠fb/\ni≠gB/\ni≠M/\ni≠fb/\J.heap.size<=Q):=⟨AB,AB,AB,AB,AB,AB,AB,by have:=bd.out;omega⟩
 clear cW bn bf hb AI a9 KB X4 O4 b0 b1 b2 bl cN ct dq aA dn dl
 have cr:Hid (Q≠U/\Q≠bA/\w.heap.size<=J.heap.size/\U<J.heap.size/\fb<J.heap.size):=⟨by have:=NE.out;omega,by have:=NE.out;have:=LA.out;omega,AB,AB,cx⟩
 go_cut [15](fun dz wx=>dz=.pointer (some ⟨ni,0,none⟩)/\Fh w p O n B bH cH I S bR cR L bA cA V z c bs ba U wx/\wx.ownsRow w.heap.size 111 11 (.slice (some ⟨fb,0,none⟩) [Gy m im,GL m].length 2) [Gy m im,GL m].length (DL [Gy m im,GL m])/\KV I S L J.heap.size M gB cB VB zB qB wx/\∃VI,KV I S L J.heap.size ni Q cI VI zB qB wx)
 case first=>
  have j0:∀k,Tn (some Q) y6 k->k.cell? ⟨ni,0,none⟩=some (.slice (some ⟨Q,0,none⟩) 8 cI):=fun k h=>(KI.N.tn h (by intro e;exact NE.1 (Option.some.inj e))).cells.1
  have dV:(m:Int)<8:=AB
  refine wp_region_held_drew (S:=fun k=>Tn (some Q) y6 k) Ab (Tn.of Al.drew) (fun _=>?_)
  refine lM [0,1,2] ?_
  have l:Bw y6 y6.drew:=Al.drew
  generalize y6.drew=t0 at l⊢
  refine AO 3 rfl (fun KK D=>?_)
  go_simp
  refine(Av false (-1) _).mono ?_
  rintro e t1⟨rfl,hb⟩
  have az:Bw y6 t1:=l.trans (hb.mono l.size)
  refine D.out _ _ (Tn.of az) (fun _=>?_)
  clear D KK hb l
  unfold VV.v
  refine BV ?_
  refine Ao 4 ?_
  have K1:=KI.below az
  have AR:=MI K1.A (show m<8 by omega) (BH false (-1))
  obtain⟨q0,q1,q2,q3,q4,q5⟩:=MJ K1.A (show m<8 by omega)
  have qf:=K1.A.free
  have ql:=K1.A.lt
  obtain⟨t2,aM⟩:=BG (FW t1 Q (m*6) (BH false (-1)))
  have E:Hid (Fh w p O n B bH cH I S bR cR L bA cA V z c bs ba U t2/\t2.ownsRow w.heap.size 111 11 (.slice (some ⟨fb,0,none⟩) [Gy m im,GL m].length 2) [Gy m im,GL m].length (DL [Gy m im,GL m])/\KV I S L J.heap.size M gB cB VB zB qB t2/\KV I S L J.heap.size ni Q cI (GJ VB m (BH false (-1))) zB qB t2/\Tn (some Q) y6 t2):=(by
   have n1:=NE.out
   have n2:=cr.out
   have r1:=Aw O6 az
   have dp:(Value.slice (some ⟨fb,0,none⟩) [Gy m im,GL m].length 2).ownBlock≠some Q:=by intro e;have e1:fb=Q:=Option.some.inj e;omega
   have aP:∀{v:World}(j:Nat)(x:Value),v.ownsRow w.heap.size 111 11 (.slice (some ⟨fb,0,none⟩) [Gy m im,GL m].length 2) [Gy m im,GL m].length (DL [Gy m im,GL m])->(v.setCell ⟨Q,j,none⟩ x).ownsRow w.heap.size 111 11 (.slice (some ⟨fb,0,none⟩) [Gy m im,GL m].length 2) [Gy m im,GL m].length (DL [Gy m im,GL m]):=fun j x h=>CK h dp j x
   have aK:∀{v:World}(j:Nat)(x:Value),Fh w p O n B bH cH I S bR cR L bA cA V z c bs ba U v->Fh w p O n B bH cH I S bR cR L bA cA V z c bs ba U (v.setCell ⟨Q,j,none⟩ x):=fun j x h=>h.put AB AB j x
   have aN:∀{v:World}(j:Nat)(x:Value),KV I S L J.heap.size M gB cB VB zB qB v->KV I S L J.heap.size M gB cB VB zB qB (v.setCell ⟨Q,j,none⟩ x):=fun j x h=>h.put AB AB j x
   have aR:∀{v:World}(j:Nat)(x:Value),V3 v ni 142 (.slice (some ⟨Q,0,none⟩) 8 cI) (.int .i64 zB) (.int .i64 qB)->V3 (v.setCell ⟨Q,j,none⟩ x) ni 142 (.slice (some ⟨Q,0,none⟩) 8 cI) (.int .i64 zB) (.int .i64 qB):=fun j x h=>h.put AB j x
   have aQ:∀{v:World}(j:Nat)(x:Value),Tn (some Q) y6 v->Tn (some Q) y6 (v.setCell ⟨Q,j,none⟩ x):=fun j x h q hq hn=>(Below.heap_setCell _ ⟨Q,j,none⟩ x q (fun e=>hn (by rw[e]))).trans (h q hq hn)
   subst aM
   unfold FW
   refine⟨aK _ _ (aK _ _ (aK _ _ (aK _ _ (aK _ _ (aK _ _ (X6.below az)))))),aP _ _ (aP _ _ (aP _ _ (aP _ _ (aP _ _ (aP _ _ r1))))),aN _ _ (aN _ _ (aN _ _ (aN _ _ (aN _ _ (aN _ _ (cj.below az)))))),⟨aR _ _ (aR _ _ (aR _ _ (aR _ _ (aR _ _ (aR _ _ K1.N))))),?_,Ul K1.ok (Jh _ _ _) (Dh.1 K1.ok).2.2.2.1 (Dh.1 K1.ok).2.2.2.2,K1.ge,K1.gn⟩,aQ _ _ (aQ _ _ (aQ _ _ (aQ _ _ (aQ _ _ (aQ _ _ (Tn.of az))))))⟩
   unfold FW at AR
   exact AR:Fh w p O n B bH cH I S bR cR L bA cA V z c bs ba U t2/\t2.ownsRow w.heap.size 111 11 (.slice (some ⟨fb,0,none⟩) [Gy m im,GL m].length 2) [Gy m im,GL m].length (DL [Gy m im,GL m])/\KV I S L J.heap.size M gB cB VB zB qB t2/\KV I S L J.heap.size ni Q cI (GJ VB m (BH false (-1))) zB qB t2/\Tn (some Q) y6 t2)
  unfold FW at aM
  clear AR K1 az
  refine AO 5 rfl (fun KK D=>?_)
  go_simp
  try rw[aM]
  refine D.out _ _ E.2.2.2.2 (fun _=>?_)
  clear D KK aM j0 q0 q1 q2 q3 q4 q5 qf ql
  refine wpAnyH_done Ab ?_ _
  go_wp2_with fail
  go_meet
  exact⟨rfl,E.1,E.2.1,E.2.2.1,_,E.2.2.2.1⟩
 case rest=>
 obtain⟨rfl,x7,o7,a7,VI,bj⟩:=hcut
 have cm:Hid (ni≠M/\ni≠gB):=⟨NE.2.2.2.2.2.1,NE.2.2.2.2.1⟩
 generalize wc=y7 at x7 o7 a7 bj⊢
 have L7:Hid (∀u xb,y7.heap.size<=xb->Bw y7 u->u.ownsRow y7.heap.size 111 11 (.slice (some ⟨xb,0,none⟩) 0 0) 0 (DL [])->LQ w p O n B bH cH I S bR cR L bA cA V z c bs ba U J.heap.size fb 2 [Gy m im,GL m] M gB cB VB zB qB ni Q cI VI zB qB xb 0 [] u):=fun u xb bi hb o=>by
  have n1:=NE.out
  have n2:=cr.out
  have l1:fb<y7.heap.size:=(o7.lt fb rfl).2
  have l2:=a7.A.lt
  have l3:=bj.A.lt
  have l4:=x7.F.size
  exact⟨x7.below hb,Aw o7 hb,DT o l4,a7.below hb,bj.below hb,AB,AB,AB,by have:=a7.ge;omega,AB,AB,AB,LA⟩
 have W7:=hxy x7.F.size
 clear x7 o7 a7 bj X6 O6 cj KI
 obtain⟨dd,dm⟩:∃dd:Nat,((m:Int)-3)%4+4=(dd:Int):=⟨(((m:Int)-3)%4+4).toNat,AB⟩
 have di:dd<=7:=AB
 go_upto_region 10 with fail
 obtain⟨y8,cX,b8,b5,m8⟩:∃y,(y7.alloc (.cells #[] 111)).alloc (.cells #[.int .i64 11,.int .i64 (dd:Int),.int .i64 (m:Int),.int .i64 0,.int .i64 7,.int .i64 0] 85)=y/\Bw y7 y/\LQ w p O n B bH cH I S bR cR L bA cA V z c bs ba U J.heap.size fb 2 [Gy m im,GL m] M gB cB VB zB qB ni Q cI VI zB qB y7.heap.size 0 [] y/\Ib y (y7.heap.size+1) ⟨11,(dd:Int),(m:Int),0,7,0⟩:=by
  have e1:(y7.alloc (.cells #[] 111)).heap.size=y7.heap.size+1:=AY
  have o1:(y7.alloc (.cells #[] 111)).ownsRow y7.heap.size 111 11 (.slice (some ⟨y7.heap.size,0,none⟩) 0 0) 0 []:=World.ownsRow_lit y7 #[] 0 (Nat.le_refl _) (by unfold maxLen;omega) rfl
  have b1:Bw y7 ((y7.alloc (.cells #[] 111)).alloc (.cells #[.int .i64 11,.int .i64 (dd:Int),.int .i64 (m:Int),.int .i64 0,.int .i64 7,.int .i64 0] 85)):=(Ah).alloc AY _
  refine⟨_,rfl,b1,L7 _ _ (Nat.le_refl _) b1 (Aw o1 (Ah)),?_⟩
  rw[<-e1]
  exact Bh _ _
 try rw[cX]
 obtain⟨xb,bi⟩:=BG (y7.heap.size)
 obtain⟨nm,bU⟩:=BG (y7.heap.size+1)
 rw[bU]at m8
 rw[bi]at b5
 try rw[bU]
 try rw[bi]
 have Q8:=hxy b5
 have M8:=hxy m8
 have du:nm≠p:=by have:=W7.out;omega
 clear cX b8 b5 m8 bi bU dm L7
 go_cut [79](fun dD wx=>∃b:Bool,dD=.bool b/\LQ w p O n B bH cH I S bR cR L bA cA V z c bs ba U J.heap.size fb 2 [Gy m im,GL m] M gB cB VB zB qB ni Q cI VI zB qB xb 0 [] wx/\Ib wx nm ⟨11,(dd:Int),(m:Int),0,7,0⟩)
 case first=>
  go_wp2_with fail
  refine(Bv p O n B 2 _ AB Q8.X.K).mono ?_
  rintro e y9⟨b9,rfl,f,k'⟩
  have Q9:Hid (LQ w p O n B bH cH I S bR cR L bA cA V z c bs ba U J.heap.size fb 2 [Gy m im,GL m] M gB cB VB zB qB ni Q cI VI zB qB xb 0 [] y9):=Q8.fw f k'
  have M9:Hid (Ib y9 nm ⟨11,(dd:Int),(m:Int),0,7,0⟩):=M8.fw f du
  clear f k' Q8 M8
  have m0:=M9.cells
  cases b9 with
  |false=>
   go_wp2_with fail
   go_meet
   exact⟨_,rfl,Q9,M9⟩
  |true=>
   go_wp2_with fail
   go_meet
   exact⟨_,rfl,Q9,M9⟩
 case rest=>
 obtain⟨dh,rfl,q9,m9⟩:=hcut
 generalize wc=y9 at q9 m9⊢
 have Q9:=hxy q9
 have M9:=hxy m9
 clear q9 m9 Q8 M8
 go_upto_if 79 with fail
 go_cut [16](fun dB wx=>∃(xg xc:Nat)(xs:List SV)(Q cI:Nat)(VI:Nat->VV)(zI qI:Int),dB=.slice (some ⟨xg,0,none⟩) xs.length xc/\Wl xs/\xs.length<=1/\LQ w p O n B bH cH I S bR cR L bA cA V z c bs ba U J.heap.size fb 2 [Gy m im,GL m] M gB cB VB zB qB ni Q cI VI zI qI xg xc xs wx)
 case first=>
  cases dh with
  |false=>
   go_wp2_with fail
   go_meet
   exact⟨xb,0,[],Q,cI,VI,zB,qB,rfl,.nil,AY,Q9⟩
  |true=>
   have m0:=M9.cells
   obtain⟨ms,bS⟩:∃ms:SV,NI ⟨11,(dd:Int),(m:Int),0,7,0⟩=ms:=⟨_,rfl⟩
   obtain⟨t1,dv,b1,o1⟩:∃y,y9.alloc (.cells #[.int .i64 1,.int .i64 11,.int .i64 (dd:Int),.int .i64 (m:Int),.int .i64 0,.int .i64 7,.int .i64 0,.int .i64 0,.int .i64 0,.int .i64 0,.int .i64 0] 111)=y/\Bw y9 y/\y.ownsRow y9.heap.size 111 11 (.slice (some ⟨y9.heap.size,0,none⟩) [ms].length 1) [ms].length (DL [ms]):=⟨_,rfl,Ah,by rw[Lm,<-bS];exact World.ownsRow_lit y9 (EZ (NI ⟨11,(dd:Int),(m:Int),0,7,0⟩)).toArray 1 (Nat.le_refl _) (by unfold maxLen;omega) rfl⟩
   have aj:=Q9.below b1
   obtain⟨g2,c2,t2,bv,o2,bQ,cC⟩:=Ir t1 w.heap.size xb 0 [] aj.Bo _ y9.heap.size 1 [ms] o1 AY (by have:=aj.X.F.size;omega)
   have af:Hid (LQ w p O n B bH cH I S bR cR L bA cA V z c bs ba U J.heap.size fb 2 [Gy m im,GL m] M gB cB VB zB qB ni Q cI VI zB qB g2 c2 ([]++[ms]) t2):=aj.growX bQ o2 cC
   have ck:Hid (Ib t2 nm ⟨11,(dd:Int),(m:Int),0,7,0⟩):=Bn (M9.below b1) bQ (Az (M9.below b1) aj.Bo Aa)
   have df:Hid (Wl ([]++[ms])):=(by rw[<-bS];exact XW _:Wl ([]++[ms]))
   clear aj o2 bQ bS Q9 M9
   go_upto_region 12 with(first|(at_builtin;refine D8 rfl _ _ 23 rfl rfl rfl bv ?_))
   clear bv dv b1 o1 m0
   have s0:=af.X.cells
   have i0:=af.KI.N.cells
   have il:=af.KI.N.lt
   have m0:=ck.cells
   have ff:∀(v:Value)(zz cc:Int)(w:World),(Instr.field 192 (.agg #[.int .i64 0,v,.int .i64 zz,.int .i64 cc]) 1).run Tryz.prog w=.ok (.agg #[v,.int .i64 zz,.int .i64 cc]) w:=fun v zz cc w=>by kernel_rfl
   go_wp2_with fail
   refine(Eb bH cH I S bR cR 8 L Q cI 8 VI zB qB 11 (dd:Int) (m:Int) 0 7 0 t2 (by have:=af.X.lH;omega) AB AB af.X.sc af.KI.A).mono ?_
   rintro e t3 ai
   obtain⟨g5,bD,V5,z5,q5,rfl,dN,A5,c8,hb⟩:=Oi ai af.KI.ok (Tv aO di) (Or.inr (Or.inl rfl))
   have ay:=af.below hb
   have l1:fb<t2.heap.size:=(af.Fr.lt fb rfl).2
   have l2:g2<t2.heap.size:=(af.Bo.lt g2 rfl).2
   have l3:=af.KI.N.lt
   have l4:=af.KI.A.lt
   have l5:=af.KI.ge
   have aJ:Hid (LQ w p O n B bH cH I S bR cR L bA cA V z c bs ba U J.heap.size fb 2 [Gy m im,GL m] M gB cB VB zB qB ni g5 bD V5 z5 q5 g2 c2 ([]++[ms]) (((t3.setCell ⟨ni,0,none⟩ (.slice (some ⟨g5,0,none⟩) 8 bD)).setCell ⟨ni,1,none⟩ (.int .i64 z5)).setCell ⟨ni,2,none⟩ (.int .i64 q5))):=ay.putI A5 c8 AB AB AB AB cm.1 cm.2
   obtain⟨n0,n1,n2⟩:=ay.KI.N.cells
   have nf:=ay.KI.N.free
   have nl:=ay.KI.N.lt
   clear ai hb ay A5 c8 s0 i0 il m0 af ck l1 l2 l3 l4 l5
   go_wp2_with fail
   go_meet
   exact⟨g2,c2,[]++[ms],g5,bD,V5,z5,q5,rfl,df,AY,aJ⟩
 case rest=>
 obtain⟨xg,xc,xs,Q,cI,VI,zI,qI,rfl,dc,bB,b7⟩:=hcut
 generalize wc=ad at b7⊢
 have aj:=hxy b7
 have cp:Hid (Wl xs/\xs.length<=1):=⟨dc,bB⟩
 clear b7 dc bB Q9 M9
 go_upto_region 13 with fail
 go_cut [18](fun dC wx=>∃(g cg:Nat)(ms:List SV)(np gA aa:Nat)(V':Nat->VV)(z' c':Int),dC=.slice (some ⟨g,0,none⟩) ms.length cg/\Wl ms/\ms.length<=4*gb d/\DR I S L Q ad p O n B g cg ms np gA aa V' z' c' wx)
 case first=>
  have SS:∀k,Fw p ad k/\CG k p O n B->LQ w p O n B bH cH I S bR cR L bA cA V z c bs ba U J.heap.size fb 2 [Gy m im,GL m] M gB cB VB zB qB ni Q cI VI zI qI xg xc xs k:=fun k h=>aj.fw h.1 h.2
  have j0:∀k,Fw p ad k/\CG k p O n B->k.cell? ⟨bs,0,none⟩=some (.slice (some ⟨bH,0,none⟩) I cH):=fun k h=>(SS k h).X.cells.1.1
  have j1:∀k,Fw p ad k/\CG k p O n B->k.cell? ⟨bs,1,none⟩=some (.slice (some ⟨bR,0,none⟩) 8 cR):=fun k h=>(SS k h).X.cells.1.2
  have j2:∀k,Fw p ad k/\CG k p O n B->k.cell? ⟨ni,0,none⟩=some (.slice (some ⟨Q,0,none⟩) 8 cI):=fun k h=>(SS k h).KI.N.cells.1
  have j3:∀k,Fw p ad k/\CG k p O n B->k.cell? ⟨ni,1,none⟩=some (.int .i64 zI):=fun k h=>(SS k h).KI.N.cells.2.1
  have j4:∀k,Fw p ad k/\CG k p O n B->k.cell? ⟨ni,2,none⟩=some (.int .i64 qI):=fun k h=>(SS k h).KI.N.cells.2.2
  have dW:IntKind.i64.wrap (d:Int)=(d:Int):=by rw[IntKind.wrap_i64]<;>omega
  have bC:=hxy SS
  have cO:p<ad.heap.size:=by have:=aj.X.F.size;omega
  have cv:Q<ad.heap.size:=aj.KI.A.lt
  have aX:Q≠p:=by have:=aj.KI.ge;have:=aj.w1;omega
  clear SS
  refine wp_region_held_drew (S:=fun k=>Fw p ad k/\CG k p O n B) Ab ⟨.of_below Al.drew,aj.X.K.below Al.drew⟩ (fun hH=>?_)
  refine lM [0,1,2,3,6,7,8] ?_
  generalize ad.drew=t0 at hH⊢
  have q0:=hH
  clear hH
  refine wpAnyH_ready (rs:=[4,13]) Ab AY ?_
  refine AllReadyH.cons rfl (fun KK D=>?_) (AllReadyH.cons rfl (fun KK D=>?_) AllReadyH.nil)
  ·skip
   go_simp
   refine(AX p O n B 4 _ AB q0.2).mono ?_
   rintro e t1⟨md,rfl,G8,dw,f,k'⟩
   have Z:Fw p ad t1/\CG t1 p O n B:=⟨q0.1.trans f,k'⟩
   refine D.out _ _ Z (fun _=>?_)
   clear D KK q0 f k'
   have q0:=Z
   clear Z
   obtain⟨mn,aZ⟩:∃mn:Nat,1+md=(mn:Int):=⟨(1+md).toNat,AB⟩
   have aI:mn<=4:=AB
   have bX:IntKind.i64.wrap (mn:Int)=(mn:Int):=by rw[IntKind.wrap_i64]<;>omega
   refine BV ?_
   refine Ao 5 ?_
   try rw[aZ]
   clear aZ bX
   refine wpAnyH_ready (rs:=[9,13]) Ab AY ?_
   refine AllReadyH.cons rfl (fun KK D=>?_) (AllReadyH.cons rfl (fun KK D=>?_) AllReadyH.nil)
   ·skip
    go_simp
    have gx:=bC.out _ q0
    refine(IH p O n B bH cH I S bR cR L Q cI VI zI qI mn _ _ AB q0.2 gx.X.sc gx.KI.A gx.KI.ok gx.X.p1 gx.X.p2 aX).mono ?_
    rintro e t2⟨g,cg,ms,gA,aa,V',z',c',rfl,au,ag,ae,an,hA,al,f,k'⟩
    have Z:Fw p ad t2/\CG t2 p O n B:=⟨q0.1.trans f,k'⟩
    refine D.out _ _ Z (fun _=>?_)
    clear D KK
    refine BV ?_
    refine lM [10,11,12] ?_
    have ar:ms.length<=4*gb d:=Nat.le_trans ag (Nat.mul_le_mul_right _ aI)
    have DD:Hid (DR I S L Q ad p O n B g cg ms t2.heap.size gA aa V' z' c' (t2.alloc (.cells #[.slice (some ⟨gA,0,none⟩) 8 aa,.int .i64 z',.int .i64 c'] 142))):=TF q0.1 ae an hA al f k'
    clear gx ag ae an hA al f k' q0 j0 j1 j2 j3 j4
    refine AO 13 rfl (fun KK D=>?_)
    go_simp
    refine D.out _ _ ⟨Z.1.trans (.of_below (Ah)),Z.2.below (Ah)⟩ (fun _=>?_)
    clear D KK
    refine BV ?_
    refine Ao 14 ?_
    refine AO 15 rfl (fun KK D=>?_)
    go_simp
    refine D.out _ _ ⟨DD.F,DD.K⟩ (fun _=>?_)
    clear D KK Z
    refine wpAnyH_done Ab ?_ _
    go_wp2_with fail
    go_meet
    exact⟨g,cg,ms,_,gA,aa,V',z',c',rfl,au,ar,DD⟩
   ·skip
    go_simp
    obtain⟨t4,aF,bn⟩:∃y,t1.alloc (.cells #[.slice none 0 0,.int .i64 0,.int .i64 0] 142)=y/\Bw t1 y:=⟨_,rfl,Ah⟩
    have nz:=V3.new t1 142 (.slice none 0 0) (.int .i64 0) (.int .i64 0)
    rw[aF]at nz⊢
    have Z:Fw p ad t4/\CG t4 p O n B:=⟨q0.1.trans (.of_below bn),q0.2.below bn⟩
    have ac:=q0.1.size
    obtain⟨np,a3⟩:=BG (t1.heap.size)
    rw[a3]at nz ac⊢
    refine D.out _ _ Z (fun _=>?_)
    clear D KK q0 aF bn a3
    have q0:=Z
    clear Z
    refine BV ?_
    refine AO 9 rfl (fun KK D=>?_)
    go_simp
    have gx:=bC.out _ q0
    refine(IH p O n B bH cH I S bR cR L Q cI VI zI qI mn _ _ AB q0.2 gx.X.sc gx.KI.A gx.KI.ok gx.X.p1 gx.X.p2 aX).mono ?_
    rintro e t5⟨g,cg,ms,gA,aa,V',z',c',rfl,au,ag,ae,an,hA,al,f,k'⟩
    have Z:Fw p ad t5/\CG t5 p O n B:=⟨q0.1.trans f,k'⟩
    refine D.out _ _ Z (fun _=>?_)
    clear D KK
    refine BV ?_
    refine lM [10,11,12,14] ?_
    have ar:ms.length<=4*gb d:=Nat.le_trans ag (Nat.mul_le_mul_right _ aI)
    have DD:Hid (DR I S L Q ad p O n B g cg ms np gA aa V' z' c' (((t5.setCell ⟨np,0,none⟩ (.slice (some ⟨gA,0,none⟩) 8 aa)).setCell ⟨np,1,none⟩ (.int .i64 z')).setCell ⟨np,2,none⟩ (.int .i64 c'))):=Jv q0.1 cO cv nz ac ae an hA al f k'
    have nv:=Ci nz f AB
    obtain⟨e0,e1,e2⟩:=V3.cells nv
    have ef:=V3.free nv
    have el:=V3.lt nv
    clear nv nz gx ag ae an hA al f k' q0 j0 j1 j2 j3 j4
    refine AO 15 rfl (fun KK D=>?_)
    go_simp
    refine D.out _ _ ⟨DD.F,DD.K⟩ (fun _=>?_)
    clear D KK Z
    refine wpAnyH_done Ab ?_ _
    go_wp2_with fail
    go_meet
    exact⟨g,cg,ms,_,gA,aa,V',z',c',rfl,au,ar,DD⟩
  ·skip
   go_simp
   obtain⟨t7,a5,bn⟩:∃y,t0.alloc (.cells #[.slice none 0 0,.int .i64 0,.int .i64 0] 142)=y/\Bw t0 y:=⟨_,rfl,Ah⟩
   have nz:=V3.new t0 142 (.slice none 0 0) (.int .i64 0) (.int .i64 0)
   rw[a5]at nz⊢
   have Z:Fw p ad t7/\CG t7 p O n B:=⟨q0.1.trans (.of_below bn),q0.2.below bn⟩
   have ac:=q0.1.size
   obtain⟨np,a3⟩:=BG (t0.heap.size)
   rw[a3]at nz ac⊢
   refine D.out _ _ Z (fun _=>?_)
   clear D KK q0 a5 bn a3
   have q0:=Z
   clear Z
   refine BV ?_
   refine AO 4 rfl (fun KK D=>?_)
   go_simp
   refine(AX p O n B 4 _ AB q0.2).mono ?_
   rintro e t8⟨md,rfl,G8,dw,f,k'⟩
   have Z:Fw p ad t8/\CG t8 p O n B:=⟨q0.1.trans f,k'⟩
   have av:V3 t8 np 142 (.slice none 0 0) (.int .i64 0) (.int .i64 0):=Ci nz f AB
   refine D.out _ _ Z (fun _=>?_)
   clear D KK q0 f k' nz
   have q0:=Z
   clear Z
   obtain⟨mn,aZ⟩:∃mn:Nat,1+md=(mn:Int):=⟨(1+md).toNat,AB⟩
   have aI:mn<=4:=AB
   have bX:IntKind.i64.wrap (mn:Int)=(mn:Int):=by rw[IntKind.wrap_i64]<;>omega
   refine BV ?_
   refine Ao 5 ?_
   try rw[aZ]
   clear aZ bX
   have nz:=av
   clear av
   refine AO 9 rfl (fun KK D=>?_)
   go_simp
   have gx:=bC.out _ q0
   refine(IH p O n B bH cH I S bR cR L Q cI VI zI qI mn _ _ AB q0.2 gx.X.sc gx.KI.A gx.KI.ok gx.X.p1 gx.X.p2 aX).mono ?_
   rintro e t9⟨g,cg,ms,gA,aa,V',z',c',rfl,au,ag,ae,an,hA,al,f,k'⟩
   have Z:Fw p ad t9/\CG t9 p O n B:=⟨q0.1.trans f,k'⟩
   refine D.out _ _ Z (fun _=>?_)
   clear D KK
   refine BV ?_
   refine lM [10,11,12,14] ?_
   have ar:ms.length<=4*gb d:=Nat.le_trans ag (Nat.mul_le_mul_right _ aI)
   have DD:Hid (DR I S L Q ad p O n B g cg ms np gA aa V' z' c' (((t9.setCell ⟨np,0,none⟩ (.slice (some ⟨gA,0,none⟩) 8 aa)).setCell ⟨np,1,none⟩ (.int .i64 z')).setCell ⟨np,2,none⟩ (.int .i64 c'))):=Jv q0.1 cO cv nz ac ae an hA al f k'
   have nv:=Ci nz f AB
   obtain⟨e0,e1,e2⟩:=V3.cells nv
   have ef:=V3.free nv
   have el:=V3.lt nv
   clear nv nz gx ag ae an hA al f k' q0 j0 j1 j2 j3 j4
   refine AO 15 rfl (fun KK D=>?_)
   go_simp
   refine D.out _ _ ⟨DD.F,DD.K⟩ (fun _=>?_)
   clear D KK Z
   refine wpAnyH_done Ab ?_ _
   go_wp2_with fail
   go_meet
   exact⟨g,cg,ms,_,gA,aa,V',z',c',rfl,au,ar,DD⟩
 case rest=>
 obtain⟨mg,mc,ms,np,gA,aa,V',z',c',rfl,db,bw,dr⟩:=hcut
 generalize wc=de at dr⊢
 have af:Hid (LQ w p O n B bH cH I S bR cR L bA cA V z c bs ba U J.heap.size fb 2 [Gy m im,GL m] M gB cB VB zB qB ni Q cI VI zI qI xg xc xs de):=aj.fw dr.F dr.K
 have RM:=hxy dr.row
 have co:Hid (Wl ms/\ms.length<=4*gb d):=⟨db,bw⟩
 have dF:Hid (xg<ad.heap.size/\fb<ad.heap.size):=⟨(aj.Bo.lt xg rfl).2,(aj.Fr.lt fb rfl).2⟩
 clear db bw dr aj
 have dQ:gb d<=1000:=Xk hd
 have dS:xs.length<=1:=cp.2
 have dR:ms.length<=4*gb d:=co.2
 obtain⟨g2,c2,t1,aB,o1,cz,bo⟩:=Ir de w.heap.size xg xc xs af.Bo _ mg mc ms RM AB af.X.F.size
 obtain⟨zs,bZ⟩:=BG (xs++ms)
 rw[bZ]at aB o1
 have ch:Hid (Wl zs/\zs.length<=1+4*gb d):=(by rw[<-bZ];exact⟨cp.1.app co.1,by simp;omega⟩:Wl zs/\zs.length<=1+4*gb d)
 have ay:Hid (LQ w p O n B bH cH I S bR cR L bA cA V z c bs ba U J.heap.size fb 2 [Gy m im,GL m] M gB cB VB zB qB ni Q cI VI zI qI g2 c2 zs t1):=af.growX cz o1 bo
 clear o1 cz bo af RM bZ
 have dU:zs.length<=1+4*gb d:=ch.2
 go_upto_region 15 with(first|(at_builtin;refine D8 rfl _ _ 23 rfl rfl rfl aB ?_))
 clear aB
 obtain⟨e1,bP⟩:∃e:SV,(⟨1,10,(m:Int),(m:Int),0,-1,0,0,0,0,0⟩:SV)=e:=⟨_,rfl⟩
 obtain⟨t2,aM,b2,o2⟩:∃y,t1.alloc (.cells #[.int .i64 1,.int .i64 10,.int .i64 (m:Int),.int .i64 (m:Int),.int .i64 0,.int .i64 (-1),.int .i64 0,.int .i64 0,.int .i64 0,.int .i64 0,.int .i64 0,.int .i64 1,.int .i64 18,.int .i64 0,.int .i64 (m:Int),.int .i64 0,.int .i64 0,.int .i64 0,.int .i64 0,.int .i64 0,.int .i64 0,.int .i64 0] 111)=y/\Bw t1 y/\y.ownsRow t1.heap.size 111 11 (.slice (some ⟨t1.heap.size,0,none⟩) [e1,GL m].length 2) [e1,GL m].length (DL [e1,GL m]):=⟨_,rfl,Ah,by rw[<-bP];exact World.ownsRow_lit t1 (DL [⟨1,10,(m:Int),(m:Int),0,-1,0,0,0,0,0⟩,GL m]).toArray 2 (Nat.le_refl _) (by unfold maxLen;omega) rfl⟩
 have aJ:=ay.below b2
 obtain⟨g3,c3,t3,aC,o3,cD,bp⟩:=Ir t2 w.heap.size g2 c2 zs aJ.Bo _ t1.heap.size 2 [e1,GL m] o2 (by simp;omega) aJ.X.F.size
 obtain⟨ys,bY⟩:=BG (zs++[e1,GL m])
 rw[bY]at aC o3
 have cn:Hid (LQ w p O n B bH cH I S bR cR L bA cA V z c bs ba U J.heap.size fb 2 [Gy m im,GL m] M gB cB VB zB qB ni Q cI VI zI qI g3 c3 ys t3):=aJ.growX cD o3 bp
 have cq:Hid (Wl ys/\ys.length<=3+4*gb d):=(by
  rw[<-bY]
  refine⟨ch.1.app ?_,by simp;omega⟩
  rw[<-bP]
  exact .ins rfl rfl rfl (.ins rfl rfl rfl .nil):Wl ys/\ys.length<=3+4*gb d)
 clear aJ o3 cD bp bP ay o2 b2
 go_upto_region 16 with(first|(at_builtin;refine D8 rfl _ _ 23 rfl rfl rfl aC ?_))
 clear aC aM bY
 have dT:ys.length<=3+4*gb d:=cq.2
 obtain⟨ws,a6⟩:∃e:SV,(⟨3,0,0,0,0,0,0,2,(ys.length:Int),0,0⟩:SV)=e:=⟨_,rfl⟩
 obtain⟨t4,aF,b4,o4⟩:∃y,t3.alloc (.cells #[.int .i64 3,.int .i64 0,.int .i64 0,.int .i64 0,.int .i64 0,.int .i64 0,.int .i64 0,.int .i64 2,.int .i64 (ys.length:Int),.int .i64 0,.int .i64 0] 111)=y/\Bw t3 y/\y.ownsRow t3.heap.size 111 11 (.slice (some ⟨t3.heap.size,0,none⟩) [ws].length 1) [ws].length (DL [ws]):=⟨_,rfl,Ah,by rw[Lm,<-a6];exact World.ownsRow_lit t3 (EZ ⟨3,0,0,0,0,0,0,2,(ys.length:Int),0,0⟩).toArray 1 (Nat.le_refl _) (by unfold maxLen;omega) rfl⟩
 have bb:=cn.below b4
 obtain⟨g5,c5,t5,aD,o5,cE,bq⟩:=Ir t4 w.heap.size fb 2 [Gy m im,GL m] bb.Fr _ t3.heap.size 1 [ws] o4 AY bb.X.F.size
 obtain⟨bL,aH⟩:=BG ([Gy m im,GL m]++[ws])
 rw[aH]at aD o5
 have ds:bL.length=3:=by rw[<-aH];rfl
 have aT:=bb.growF cE o5 bq
 obtain⟨g6,c6,t6,aE,o6,cF,bu⟩:=Ir t5 w.heap.size g5 c5 bL aT.Fr _ g3 c3 ys aT.Bo AB aT.X.F.size
 obtain⟨AL,bM⟩:∃AL,bL++ys=AL:=⟨_,rfl⟩
 rw[bM]at aE o6
 have aw:Hid (LQ w p O n B bH cH I S bR cR L bA cA V z c bs ba U J.heap.size g6 c6 AL M gB cB VB zB qB ni Q cI VI zI qI g3 c3 ys t6):=aT.growF cF o6 bu
 have bc:Hid (Wl AL/\AL.length<=gb (d+1)):=(by
  rw[<-bM,<-aH]
  refine⟨?_,by show _<=6+5*gb d;have:=NQ d;simp;omega⟩
  have:=Wl.node (s:=ws) (x:=ys) (y:=[]) (xs:=[]) (by rw[<-a6];show(3:Int)≠1;decide) (by rw[<-a6]) (by rw[<-a6];rfl) cq.1 .nil .nil
  have h2:=Wl.ins (s:=GL m) rfl rfl rfl this
  have h1:=Wl.ins (s:=Gy m im) rfl rfl rfl h2
  simpa using h1:Wl AL/\AL.length<=gb (d+1))
 clear bb aT o4 o5 o6 cE cF bq bu a6 b4 cn aH ds
 go_upto_region 17 with(first|(at_builtin;refine D8 rfl _ _ 23 rfl rfl rfl aD ?_)|(at_builtin;refine D8 rfl _ _ 23 rfl rfl rfl aE ?_))
 clear aD aE aF bM
 have dk:AL.length<=1048576:=by have:=bc.2;have h2:gb (d+1)=6+5*gb d:=rfl;omega
 have s0:=aw.X.cells
 go_wp2_with fail
 refine(Qo AL dk bc.1 bH cH I S bR cR L bA cA V z c 0 0 _ t6 (by have:=aw.X.lH;omega) aw.X.sc aw.X.G aw.X.ok (iL aw.Fr) AB AB).mono ?_
 rintro e t7⟨ax,aV,be,m7,ap,z7,c7,r7,rfl,d0,d1,cw,hb⟩
 have yb:=PX (at':=aV) (rounds:=r7) cw
 have bn:Bw t7 (t7.alloc (.cells #[.int .i64 ax,.int .i64 aV,.slice be m7 ap,.int .i64 z7,.int .i64 c7,.int .i64 r7] 199)):=Ah
 obtain⟨t8,cQ⟩:=BG (t7.alloc (.cells #[.int .i64 ax,.int .i64 aV,.slice be m7 ap,.int .i64 z7,.int .i64 c7,.int .i64 r7] 199))
 rw[cQ]at yb bn
 have aU:Hid (LQ w p O n B bH cH I S bR cR L bA cA V z c bs ba U J.heap.size g6 c6 AL M gB cB VB zB qB ni Q cI VI zI qI g3 c3 ys t8):=(aw.below hb).below bn
 have cU:=aw.X.F.size
 have bm:U<t6.heap.size:=aw.X.R.lt
 have a1:=hb.size
 obtain⟨no,bV⟩:=BG (t7.heap.size)
 rw[bV]at yb a1
 have Y8:=hxy yb
 unfold Dj
 go_upto_region 18 with fail
 try rw[bV]
 have dI:p<no:=AB
 have ZB:Hid (w.heap.size<=t6.heap.size/\U<t6.heap.size/\t6.heap.size<=no):=⟨cU,bm,a1⟩
 clear hb cw yb bn cQ bV aw s0 cU bm a1
 go_cut [136](fun c9 wx=>∃b:Bool,c9=.bool b/\LQ w p O n B bH cH I S bR cR L bA cA V z c bs ba U J.heap.size g6 c6 AL M gB cB VB zB qB ni Q cI VI zI qI g3 c3 ys wx/\YB I S L bA t6.heap.size no ax aV be m7 ap z7 c7 r7 wx)
 case first=>
  obtain⟨v0,v1,v2,v3,v4,v5,vf,vl⟩:=Y8.cells
  by_cases h0:ax=0
  ·have e1:(ax !=0)=false:=by simp[h0]
   clear h0
   go_wp2_with fail
   go_meet
   exact⟨_,rfl,aU,Y8⟩
  ·have e1:(ax !=0)=true:=by simp[h0]
   go_wp2_with fail
   refine(AX p O n B 8 _ AB aU.X.K).mono ?_
   rintro e t9⟨y,rfl,y0,y8,f,k'⟩
   have am:Hid (LQ w p O n B bH cH I S bR cR L bA cA V z c bs ba U J.heap.size g6 c6 AL M gB cB VB zB qB ni Q cI VI zI qI g3 c3 ys t9):=aU.fw f k'
   have Y9:Hid (YB I S L bA t6.heap.size no ax aV be m7 ap z7 c7 r7 t9):=⟨Ci Y8.Y f AB,fun e=>by
    obtain⟨g,cg,V2,h1,h2,h3,h4,h5⟩:=Y8.ab e
    exact⟨g,cg,V2,h1,h2,h3,f.arr h4 (by have:=aU.X.p3;have:=ZB.out;omega),h5⟩⟩
   clear f k' v0 v1 v2 v3 v4 v5 vf vl
   go_wp2_with fail
   go_meet
   exact⟨_,rfl,am,Y9⟩
 case rest=>
 obtain⟨cs,rfl,ca,cb⟩:=hcut
 generalize wc=t9 at ca cb⊢
 have am:=hxy ca
 have Y9:=hxy cb
 clear ca cb aU Y8
 cases cs with
 |true=>
  have X9:=hxy am.X
  have s0:=X9.cells
  go_wp2_with fail
  refine(Fz p O n B bH cH I S bR cR L bA cA V z c aG t9 X9.K X9.sc X9.G X9.ok X9.p1 X9.p2 X9.p3).mono ?_
  rintro e z3⟨g,cg,xs,gA,aa,V',z',c',rfl,au,ag,ae,an,hA,al,f,k'⟩
  have Z3:Hid (Fh w p O n B bH cH I S bR cR L bA cA V z c bs ba U z3):=X9.fw f k'
  have bW:=X9.F.size
  have aW:=X9.R.lt
  have dt:=X9.n3
  have aY:gA≠U:=AB
  have HR:Hid (z3.ownsRow w.heap.size 111 11 (.slice (some ⟨g,0,none⟩) xs.length cg) xs.length (DL xs)):=DT ae bW
  have ah:Hid (Wl xs/\xs.length<=gb (d+1)/\(gA=bA∨w.heap.size<=gA)/\BZ z3 gA (8*6) (vF V')/\BQ I S 8 L 8 V' z' c'=true):=⟨au,by have:=NQ (d+1);omega,AB,hA,al⟩
  obtain⟨r0,r1,r2⟩:=Z3.R.cells
  have rf:=Z3.R.free
  have rl:=Z3.R.lt
  have a4:(Value.slice (some ⟨g,0,none⟩) xs.length cg).ownBlock≠some U:=Az Z3.R HR Aa
  clear f k' au ag ae an hA al s0
  go_wp2_with fail
  refine bodyPost_ret (v:=.tuple #[.slice (some ⟨g,0,none⟩) xs.length cg,.agg #[.slice (some ⟨gA,0,none⟩) 8 aa,.int .i64 z',.int .i64 c']]) (by simp[results,Tryz.results121,go_sem, *]) rfl ⟨g,cg,xs,gA,aa,V',z',c',rfl,ah.1,ah.2.1,EM HR a4 _ _ _,ah.2.2.1,Dx ah.2.2.2.1 aY _ _ _,ah.2.2.2.2,Fg Z3.F (by have:=BO.out;omega) _ _ _,Ep Z3.K (by have:=BO.out;omega) _ _ _⟩
 |false=>
  obtain⟨v0,v1,v2,v3,v4,v5,vf,vl⟩:=Y9.cells
  have R9:=am.X.R
  have dG:U<t9.heap.size:=R9.lt
  have a4:(Value.slice (some ⟨g6,0,none⟩) AL.length c6).ownBlock≠some U:=Az R9 am.Fr Aa
  have cf:Hid (∀(t:World)(gA aa:Nat)(V':Nat->VV)(z' c':Int),Bw t9 t->(gA=bA∨w.heap.size<=gA)->gA≠U->BZ t9 gA (8*6) (vF V')->BQ I S 8 L 8 V' z' c'=true->VT I S L bA (gb (d+1)) w p O n B (.returned (.tuple #[.slice (some ⟨g6,0,none⟩) AL.length c6,.agg #[.slice (some ⟨gA,0,none⟩) 8 aa,.int .i64 z',.int .i64 c']])) (((t.setCell ⟨U,0,none⟩ (.slice (some ⟨gA,0,none⟩) 8 aa)).setCell ⟨U,1,none⟩ (.int .i64 z')).setCell ⟨U,2,none⟩ (.int .i64 c'))):=fun t gA aa V' z' c' hb nw ne hA ok=>⟨g6,c6,AL,gA,aa,V',z',c',rfl,bc.1,bc.2,EM (Aw am.Fr hb) a4 _ _ _,nw,Dx (hA.below hb hA.lt) ne _ _ _,ok,Fg (am.X.below hb).F (by have:=BO.out;omega) _ _ _,Ep (am.X.below hb).K (by have:=BO.out;omega) _ _ _⟩
  by_cases h0:ax=0
  ·skip
   have e1:(ax !=0)=false:=by simp[h0]
   obtain⟨gy,dM,Uy,cS,dZ,dY,Ay,dx⟩:=Y9.ab h0
   subst h0
   simp only[Value.slice.injEq]at cS
   obtain⟨rfl,rfl,rfl⟩:=cS
   have cK:gy≠U:=by have:=am.X.n3;have:=ZB.out;omega
   have cM:gy=bA∨w.heap.size<=gy:=by have:=ZB.out;omega
   have a2:no≠U:=by have:=ZB.out;omega
   go_upto_region 22 with fail
   have j0:∀k,Tn (some U) t9 k->k.cell? ⟨no,2,none⟩=some (.slice (some ⟨gy,0,none⟩) 8 ap):=fun k h=>(World.cell?_of_block (a:=⟨no,2,none⟩) (h no vl (by intro e;exact a2 (Option.some.inj e).symm))).trans v2
   have j1:∀k,Tn (some U) t9 k->k.cell? ⟨no,3,none⟩=some (.int .i64 z7):=fun k h=>(World.cell?_of_block (a:=⟨no,3,none⟩) (h no vl (by intro e;exact a2 (Option.some.inj e).symm))).trans v3
   have j2:∀k,Tn (some U) t9 k->k.cell? ⟨no,4,none⟩=some (.int .i64 c7):=fun k h=>(World.cell?_of_block (a:=⟨no,4,none⟩) (h no vl (by intro e;exact a2 (Option.some.inj e).symm))).trans v4
   refine wp_region_held_drew (S:=fun k=>Tn (some U) t9 k) Ab (Tn.of Al.drew) (fun _=>?_)
   refine lM [0,1,2,3,4] ?_
   have l:Bw t9 t9.drew:=Al.drew
   generalize t9.drew=t0 at l⊢
   have R0:=R9.below l
   obtain⟨r0,r1,r2⟩:=R0.cells
   have rf:=R0.free
   have rl:=R0.lt
   have ah:=cf.out t0 gy ap Uy z7 c7 l cM cK Ay dx
   have RS:=hxy ah
   have TT:Hid (Tn (some U) t9 t0):=Tn.of l
   clear ah l R0 j0 j1 j2 v0 v1 v2 v3 v4 v5 vf vl
   refine AO 5 rfl (fun KK D=>?_)
   go_simp
   refine D.out _ _ (TT.set3 _ _ _) (fun _=>?_)
   clear D KK
   refine wpAnyH_done Ab ?_ _
   go_wp2_with fail
   refine bodyPost_ret (v:=.tuple #[.slice (some ⟨g6,0,none⟩) AL.length c6,.agg #[.slice (some ⟨gy,0,none⟩) 8 ap,.int .i64 z7,.int .i64 c7]]) (by simp[results,Tryz.results121,go_sem, *]) rfl RS
  ·skip
   have e1:(ax !=0)=true:=by simp[h0]
   have kb:=am.KB
   have cG:gB≠U:=by have:=kb.ge;have:=am.w2;omega
   have cJ:gB=bA∨w.heap.size<=gB:=by have:=kb.ge;have:=am.w1;omega
   have a0:M≠U:=by have:=kb.gn;have:=am.w2;omega
   go_upto_region 21 with fail
   have j0:∀k,Tn (some U) t9 k->k.cell? ⟨M,0,none⟩=some (.slice (some ⟨gB,0,none⟩) 8 cB):=fun k h=>(kb.N.tn h (by intro e;exact a0 (Option.some.inj e).symm)).cells.1
   have j1:∀k,Tn (some U) t9 k->k.cell? ⟨M,1,none⟩=some (.int .i64 zB):=fun k h=>(kb.N.tn h (by intro e;exact a0 (Option.some.inj e).symm)).cells.2.1
   have j2:∀k,Tn (some U) t9 k->k.cell? ⟨M,2,none⟩=some (.int .i64 qB):=fun k h=>(kb.N.tn h (by intro e;exact a0 (Option.some.inj e).symm)).cells.2.2
   refine wp_region_held_drew (S:=fun k=>Tn (some U) t9 k) Ab (Tn.of Al.drew) (fun _=>?_)
   refine lM [0,1,2] ?_
   have l:Bw t9 t9.drew:=Al.drew
   generalize t9.drew=t0 at l⊢
   have R0:=R9.below l
   obtain⟨r0,r1,r2⟩:=R0.cells
   have rf:=R0.free
   have rl:=R0.lt
   have ah:=cf.out t0 gB cB VB zB qB l cJ cG kb.A kb.ok
   have RS:=hxy ah
   have TT:Hid (Tn (some U) t9 t0):=Tn.of l
   clear ah l R0 j0 j1 j2 v0 v1 v2 v3 v4 v5 vf vl
   refine AO 3 rfl (fun KK D=>?_)
   go_simp
   refine D.out _ _ (TT.set3 _ _ _) (fun _=>?_)
   clear D KK
   refine wpAnyH_done Ab ?_ _
   go_wp2_with fail
   refine bodyPost_ret (v:=.tuple #[.slice (some ⟨g6,0,none⟩) AL.length c6,.agg #[.slice (some ⟨gB,0,none⟩) 8 cB,.int .i64 zB,.int .i64 qB]]) (by simp[results,Tryz.results121,go_sem, *]) rfl RS
end Go.Proofs.YtkckomianknjdaaGreat
