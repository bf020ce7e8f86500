import Derived.Test.YtcjnmdgomocpgaaGreatDoorFu6d
set_option maxHeartbeats 32000000
set_option maxRecDepth 20000
namespace Go.Proofs.YtcjnmdgomocpgaaGreatDoor
open Go.RowKit Go.Deep
variable {R k:Int}{B J K L b g n o:Nat}{S:Nat->HS}{O VB:Nat->VV}{Q u w:World}
theorem Ak.grw{E:Option Nat}{f:Nat->Value}(h:Ak u b n f)(c:u.grownBy Q E)(d:E≠some b):Ak Q b n f:=
 ⟨Ey h.lt c.size,fun i=>(World.frozen?_of_block (a:=Va b i) (c.block b h.lt (fun e=>d e.symm))).trans (h.free i),fun i j=>(World.cell?_of_block (a:=Va b i) (c.block b h.lt (fun e=>d e.symm))).trans (h.cell j)⟩
theorem Ga.grw{p:Nat}{U:Option Addr}{Y:Nat}{bH M:Nat}{D cR:Nat}{V0:Nat->VV}{bA cA:Nat}{V:Nat->VV}{z c:Int}{O Q:Nat}{u':World}(h:Ga w p U n Y bH M o S D cR V0 bA cA V z c O L Q u)(a:u.grownBy u' (some g))(l:w.heap.size<=g)(q:g≠O)(s:g≠L)(x:g≠Q)(y:g≠bA):Ga w p U n Y bH M o S D cR V0 bA cA V z c O L Q u':=by
 have d:∀{b:Nat},g≠b->(some g:Option Nat)≠some b:=fun m e=>m (Option.some.inj e)
 have B:=h.pw;exact⟨h.F.grown a (fun k j=>by have e:=Option.some.inj j;omega),h.K.grown a (fun k j=>by have e:=Option.some.inj j;omega),Be h.sg a (d q),Be h.A a (d s),Be h.R a (d x),⟨h.sc.h.grw a (d (by have:=h.n1;omega)),h.sc.r.grw a (d (by have:=h.n2;omega))⟩,h.G.grw a (d y),h.ok,h.lH,h.pw,h.o1,h.o2,h.o3,h.n1,h.n2,h.n3,h.p1,h.p2,h.p3⟩
theorem FO{P:Program}{R:Array Oper}{k:List Oper}{o:Oper}{a:Act}{j:World}{Q:Exit->Act->World->Prop}(b:o.guard=none)(s x:Operand)(t:TypeId){v u D:Value}(d:o.op=.call {callee:=.builtin .append,args:=#[s,x],argTypes:=#[t,t]})(l:a.eval s=v)(m:a.eval x=u)(e:(Builtin.append_ #[t,t] o.type #[v,u]).run P w=.ok D j)(h:wpList P R Q k (a.put o.dst D) j):wpList P R Q (o::k) a w:=by
 refine wpList_plain b fun K c=>?_
 unfold Oper.wp execOp;simp only[d,resolve,invoke,builtin,Sem.run_bind,Sem.run_pure,Result.andThen_ok,List.map_toArray,List.map_cons,List.map_nil,l,m,e];exact c _ _ h
structure KV(nH:Nat)(S:Nat->HS)(V0:Nat->VV)(B nb gB cB:Nat)(VB:Nat->VV)(zB qB:Int)(u:World):Prop where
 N:V3 u nb 31 (Vs gB 8 cB) (Vi zB) (Vi qB)
 A:Ak u gB (8*6) (vF VB)
 ok:BK nH S 8 V0 8 VB zB qB=true
 ge:B<=gB
 gn:B<=nb
theorem KV.below(h:KV o S O B J L b VB k R u)(f:Below u.heap.size u Q):KV o S O B J L b VB k R Q:=⟨h.N.below f,h.A.below f h.A.lt,h.ok,h.ge,h.gn⟩
theorem KV.fw{p:Nat}(h:KV o S O B J L b VB k R u)(a:p<B)(f:Fw p u Q):KV o S O B J L b VB k R Q:=⟨Ct h.N f (by have:=h.gn;omega),f.arr h.A (by have:=h.ge;omega),h.ok,h.ge,h.gn⟩
theorem KV.grw(h:KV o S O B J L b VB k R u)(a:u.grownBy Q (some g))(c:g≠J)(d:g≠L):KV o S O B J L b VB k R Q:=⟨Be h.N a (fun e=>c (Option.some.inj e)),h.A.grw a (fun e=>d (Option.some.inj e)),h.ok,h.ge,h.gn⟩
theorem KV.put{q:Nat}(h:KV o S O B J L b VB k R u)(a:q≠J)(c:q≠L)(j:Nat)(v:Value):KV o S O B J L b VB k R (u.setCell (Va q j) v):=⟨Ao h.N (fun e=>a e.symm) _ _,h.A.other c _,h.ok,h.ge,h.gn⟩
theorem Qj{rr:Nat}{u:Int}(h:rr<=7)(a:0<=u)(b:u<=5):BF 2 (rr:Int) 0 0 u 0=true:=by
 unfold BF;simp only[show Ap 2 1=true by kernel_rfl,show Ap 2 2=false by kernel_rfl,show Ap 2 4=false by kernel_rfl,show Ap 2 8=true by kernel_rfl,show Ap 2 16=false by kernel_rfl,Dc,DF,DL];simp[EM];omega
theorem Kn{u:Nat}(h:u<=7):BF 18 0 (u:Int) 0 0 0=true:=by
 unfold BF;simp only[show Ap 18 1=false by kernel_rfl,show Ap 18 2=true by kernel_rfl,show Ap 18 4=false by kernel_rfl,show Ap 18 8=true by kernel_rfl,show Ap 18 16=false by kernel_rfl,Dc,DF,DL];simp[EM];omega
theorem Vn{u:Nat}(h:u<=7)(a:n<=7):BF 11 (n:Int) (u:Int) 0 7 0=true:=by
 unfold BF;simp only[show Ap 11 1=true by kernel_rfl,show Ap 11 2=true by kernel_rfl,show Ap 11 4=false by kernel_rfl,show Ap 11 8=true by kernel_rfl,show Ap 11 16=false by kernel_rfl,Dc,DF,DL];simp[EM];omega
theorem Qp{V:Nat->VV}{z c Z d I C m h:Int}{j:World}{e:Ending}(t:yP o S 8 O 8 V z c Z d I C m h w e j)(F:BK o S 8 O 8 V z c=true)(B:BF Z d I C m h=true)(n:Z=2∨Z=11∨Z=18):∃g l a k b,e=.returned (.agg #[Vi 0,Vs g 8 l,Vi k,Vi b])/\w.heap.size<=g/\Ak j g (8*6) (vF a)/\BK o S 8 O 8 a k b=true/\Below w.heap.size w j:=by
 obtain⟨q,a,k,b,x,D,r,y⟩:=t;have p:=r F B n;subst p;rcases x with⟨E,_⟩|⟨_,g,l,s,u,n⟩
 ·exact absurd rfl E
 ·exact⟨g,l,a,k,b,u,s,n,D rfl,y⟩
theorem Sj{x y q:Value}(N:V3 u J 31 x y q)(A:Ak u L (8*6) (vF VB))(e:BK o S 8 O 8 VB k R=true)(a:B<=L)(c:B<=J)(d:L≠J):KV o S O B J L b VB k R (((u.setCell (Va J 0) (Vs L 8 b)).setCell (Va J 1) (Vi k)).setCell (Va J 2) (Vi R)):=
 ⟨N.set _ _ _,EI A d _ _ _,e,a,c⟩
structure LQ(w:World)(p:Nat)(ao:Option Addr)(n cap:Nat)(bH cH nH:Nat)(S:Nat->HS)(bR cR:Nat)(V0:Nat->VV)(bA cA:Nat)(V:Nat->VV)(z c:Int)(bs ba br B fb fc:Nat)(fs:List SV)(nb gB cB:Nat)(VB:Nat->VV)(zB qB:Int)(ni gI cI:Nat)(VI:Nat->VV)(zI qI:Int)(xg xc:Nat)(xs:List SV)(u:World):Prop where
 X:Ga w p ao n cap bH cH nH S bR cR V0 bA cA V z c bs ba br u
 Fr:u.ownsRow w.heap.size 117 11 (Vs fb fs.length fc) fs.length (Es fs)
 Bo:u.ownsRow w.heap.size 117 11 (Vs xg xs.length xc) xs.length (Es xs)
 KB:KV nH S V0 B nb gB cB VB zB qB u
 KI:KV nH S V0 B ni gI cI VI zI qI u
 q1:xg≠fb
 q2:xg≠gB
 q3:xg≠gI
 q4:fb≠gB
 q5:fb≠gI
 w1:w.heap.size<=B
 w2:br<B
 la:bA<w.heap.size
section
variable{w:World}{p:Nat}{ao:Option Addr}{n cap:Nat}{bH cH nH:Nat}{S:Nat->HS}{bR cR:Nat}{V0:Nat->VV}{bA cA:Nat}{V:Nat->VV}{z c:Int}{bs ba br B fb fc:Nat}{fs:List SV}{nb gB cB:Nat}{VB:Nat->VV}{zB qB:Int}{ni gI cI:Nat}{VI:Nat->VV}{zI qI:Int}{xg xc:Nat}{xs:List SV}{u u':World}
theorem LQ.fw(h:LQ w p ao n cap bH cH nH S bR cR V0 bA cA V z c bs ba br B fb fc fs nb gB cB VB zB qB ni gI cI VI zI qI xg xc xs u)(f:Fw p u u')(k:CJ u' p ao n cap):LQ w p ao n cap bH cH nH S bR cR V0 bA cA V z c bs ba br B fb fc fs nb gB cB VB zB qB ni gI cI VI zI qI xg xc xs u':=by
 have a:=h.X.pw;have b:=h.w1;exact⟨h.X.fw f k,Eb h.Fr f a,Eb h.Bo f a,h.KB.fw AB f,h.KI.fw AB f,h.q1,h.q2,h.q3,h.q4,h.q5,h.w1,h.w2,h.la⟩
theorem LQ.below(h:LQ w p ao n cap bH cH nH S bR cR V0 bA cA V z c bs ba br B fb fc fs nb gB cB VB zB qB ni gI cI VI zI qI xg xc xs u)(f:Below u.heap.size u u'):LQ w p ao n cap bH cH nH S bR cR V0 bA cA V z c bs ba br B fb fc fs nb gB cB VB zB qB ni gI cI VI zI qI xg xc xs u':=h.fw (.of_below f) (h.X.K.below f)
theorem LQ.growX(h:LQ w p ao n cap bH cH nH S bR cR V0 bA cA V z c bs ba br B fb fc fs nb gB cB VB zB qB ni gI cI VI zI qI xg xc xs u){g2:Nat}{D:List SV}(d:u.grownBy u' (some xg))(o:u'.ownsRow w.heap.size 117 11 (Vs g2 D.length K) D.length (Es D))(I:g2=xg∨g2=u.heap.size):LQ w p ao n cap bH cH nH S bR cR V0 bA cA V z c bs ba br B fb fc fs nb gB cB VB zB qB ni gI cI VI zI qI g2 K D u':=by
 have j:=Hz h.Bo (q:=xg) rfl;have a:∀{b t:Nat}{C:Array Value},u.heap[b]?=some (.cells C t)->t≠117->xg≠b:=fun m k e=>Ar m h.Bo k (by rw[e];rfl)
 have r:xg≠nb:=a h.KB.N Ad;have s:xg≠ni:=a h.KI.N Ad;have O:=h.la;have J:fb<u.heap.size:=(h.Fr.lt fb rfl).2;have L:gB<u.heap.size:=h.KB.A.lt;have M:gI<u.heap.size:=h.KI.A.lt;have Q:=h.q1;have x:=h.q2;have y:=h.q3;exact⟨h.X.grw d j (a h.X.sg Ad) (a h.X.A Ad) (a h.X.R Ad) AB,Lu h.Fr d (fun q l e=>by
  have E:fb=q:=Option.some.inj l;have F:xg=q:=Option.some.inj e;omega),o,h.KB.grw d r x,h.KI.grw d s y,AB,AB,AB,h.q4,h.q5,h.w1,h.w2,h.la⟩
theorem LQ.growF(h:LQ w p ao n cap bH cH nH S bR cR V0 bA cA V z c bs ba br B fb fc fs nb gB cB VB zB qB ni gI cI VI zI qI xg xc xs u){g2:Nat}{D:List SV}(d:u.grownBy u' (some fb))(o:u'.ownsRow w.heap.size 117 11 (Vs g2 D.length K) D.length (Es D))(I:g2=fb∨g2=u.heap.size):LQ w p ao n cap bH cH nH S bR cR V0 bA cA V z c bs ba br B g2 K D nb gB cB VB zB qB ni gI cI VI zI qI xg xc xs u':=by
 have j:=Hz h.Fr (q:=fb) rfl;have a:∀{b t:Nat}{C:Array Value},u.heap[b]?=some (.cells C t)->t≠117->fb≠b:=fun m k e=>Ar m h.Fr k (by rw[e];rfl)
 have r:fb≠nb:=a h.KB.N Ad;have s:fb≠ni:=a h.KI.N Ad;have O:=h.la;have J:xg<u.heap.size:=(h.Bo.lt xg rfl).2;have L:gB<u.heap.size:=h.KB.A.lt;have M:gI<u.heap.size:=h.KI.A.lt;have Q:=h.q1;have x:=h.q4;have y:=h.q5;exact⟨h.X.grw d j (a h.X.sg Ad) (a h.X.A Ad) (a h.X.R Ad) AB,o,Lu h.Bo d (fun q l e=>by
  have E:xg=q:=Option.some.inj l;have F:fb=q:=Option.some.inj e;omega),h.KB.grw d r x,h.KI.grw d s y,AB,h.q2,h.q3,AB,AB,h.w1,h.w2,h.la⟩
theorem LQ.putI(h:LQ w p ao n cap bH cH nH S bR cR V0 bA cA V z c bs ba br B fb fc fs nb gB cB VB zB qB ni gI cI VI zI qI xg xc xs u){A:Nat}{R:Nat->VV}{L b:Int}(o:Ak u A (8*6) (vF R))(x:BK nH S 8 V0 8 R L b=true)(l:B<=A)(q:A≠ni)(r:A≠fb)(s:A≠xg)(a:ni≠nb)(d:ni≠gB):LQ w p ao n cap bH cH nH S bR cR V0 bA cA V z c bs ba br B fb fc fs nb gB cB VB zB qB ni A K R L b xg xc xs (((u.setCell (Va ni 0) (Vs A 8 K)).setCell (Va ni 1) (Vi L)).setCell (Va ni 2) (Vi b)):=by
 have m:=h.KI.gn;have C:=h.w1;have D:=h.w2;have y:=h.la;have j:(Vs fb fs.length fc).ownBlock≠some ni:=Ar h.KI.N h.Fr Ad;have k:(Vs xg xs.length xc).ownBlock≠some ni:=Ar h.KI.N h.Bo Ad;exact⟨((h.X.put AB AB _ _).put AB AB _ _).put AB AB _ _,ER h.Fr j _ _ _,ER h.Bo k _ _ _,((h.KB.put a d _ _).put a d _ _).put a d _ _,Sj h.KI.N o x l m q,h.q1,h.q2,fun e=>s e.symm,h.q4,fun e=>r e.symm,h.w1,h.w2,h.la⟩
end
theorem pW{e s c:Nat}{d:List Value}(h:w.ownsRow B e s (Vs g n c) n d):n<=c:=by
 rcases h.2 with⟨h,_⟩|⟨j,a,b,h,_,_,k,_⟩
 ·cases h
 ·have:c=a:=by simpa using(Value.slice.inj h).2.2
  omega
theorem uR{d:List SV}(h:w.ownsRow B 117 11 (Vs g d.length L) d.length (Es d)):SL w (Vs g d.length L) d:=
 ⟨_,L,rfl,pW h,.inr ⟨g,0,rfl,(h.lt g rfl).2,fun i a=>by rw[Nat.zero_add,h.cellAt i a];exact XF d sv0 i a⟩⟩
def IB(rr:Nat)(im:Int):SV:=⟨1,2,(rr:Int),0,0,im,0,0,0,0,0⟩
def Gv(rr:Nat):SV:=⟨1,18,0,(rr:Int),0,0,0,0,0,0,0⟩
theorem kE(A:Ak u L (8*6) (vF VB))(d:BK o S 8 O 8 VB k R=true)(a:B<=L)(c:B<=u.heap.size):KV o S O B u.heap.size L b VB k R (u.alloc (.cells #[.slice (some ⟨L,0,none⟩) 8 b,.int .i64 k,.int .i64 R] 31)):=
 ⟨V3.new _ _ _ _ _,A.below (Ai) A.lt,d,a,c⟩
theorem QA(d:Nat)(IH:fG d)(hd:d<=3)(p:Nat)(O:Option Addr)(n B:Nat)(bH cH I:Nat)(S:Nat->HS)(bR cR:Nat)(L:Nat->VV)(bA cA:Nat)(V:Nat->VV)(z c aG:Int)(w:World)(hc:CJ w p O n B)(h1:Ck w bH I S bR 8 L)(h2:Ak w bA (8*6) (vF V))(h3:BK I S 8 L 8 V z c=true)(p1:bH≠p)(p2:bR≠p)(p3:bA≠p):
 Ks 86 #[.pointer (some ⟨p,0,none⟩),.agg #[.slice (some ⟨bH,0,none⟩) I cH,.slice (some ⟨bR,0,none⟩) 8 cR],.agg #[.slice (some ⟨bA,0,none⟩) 8 cA,.int .i64 z,.int .i64 c],.int .i64 ((d+1:Nat):Int),.int .i64 aG] w (Xt I S L bA (gb (d+1)) w p O n B):=by
 have X0:Hid (Ga w p O n B bH cH I S bR cR L bA cA V z c w.heap.size (w.heap.size+1) (w.heap.size+1+1) (((w.alloc (.cells #[.slice (some ⟨bH,0,none⟩) I cH,.slice (some ⟨bR,0,none⟩) 8 cR] 26)).alloc (.cells #[.slice (some ⟨bA,0,none⟩) 8 cA,.int .i64 z,.int .i64 c] 31)).alloc (.cells #[.slice none 0 0,.int .i64 0,.int .i64 0] 31))):=Rx w hc h1 h2 h3 p1 p2 p3;have LA:=hxy h2.lt;have lp:=hc.lt;clear hc h1 h2 h3 p1 p2;go_enter Tryz.func86,Tryz.ntmps86;go_upto_region 1 with fail;obtain⟨u,hu⟩:=Au (((w.alloc (.cells #[.slice (some ⟨bH,0,none⟩) I cH,.slice (some ⟨bR,0,none⟩) 8 cR] 26)).alloc (.cells #[.slice (some ⟨bA,0,none⟩) 8 cA,.int .i64 z,.int .i64 c] 31)).alloc (.cells #[.slice none 0 0,.int .i64 0,.int .i64 0] 31));rw[hu]at X0⊢;obtain⟨bs,bh⟩:=Au (w.heap.size);obtain⟨ba,bN⟩:=Au (w.heap.size+1);obtain⟨U,bO⟩:=Au (w.heap.size+1+1);have X0:Hid (Ga w p O n B bH cH I S bR cR L bA cA V z c bs ba U u):=by rw[<-bh,<-bN,<-bO];exact X0
 rw[bO,bN,bh];have BO:Hid (w.heap.size=bs/\bs<ba/\ba<U):=⟨bh,AB,AB⟩
 clear hu bh bN bO;go_wp2_with fail;refine(Af p O n B 4 _ AB X0.K).mono ?_;rintro e y1⟨cd,rfl,dJ,dK,f,k'⟩;have X1:Hid (Ga w p O n B bH cH I S bR cR L bA cA V z c bs ba U y1):=X0.fw f k';clear f k' X0;obtain⟨m,cP⟩:∃m:Nat,4+cd=(m:Int):=⟨(4+cd).toNat,AB⟩
 have d2:4<=m:=AB;have aO:m<=7:=AB;go_upto_region 2 with fail;try rw[cP]
 clear cP;by_cases dP:0<=aG
 ·skip
  have s0:=X1.cells;go_wp2_with fail;refine(Gs p O n B bH cH I S bR cR L bA cA V z c aG y1 X1.K X1.sc X1.G X1.ok X1.p1 X1.p2 X1.p3).mono ?_;rintro e z3⟨g,cg,xs,gA,aa,V',z',c',rfl,au,ag,ae,an,hA,al,f,k'⟩;have Z3:Hid (Ga w p O n B bH cH I S bR cR L bA cA V z c bs ba U z3):=X1.fw f k';have bW:=X1.F.size;have aW:=X1.R.lt;have dt:=X1.n3;have aY:gA≠U:=AB;have HR:Hid (z3.ownsRow w.heap.size 117 11 (.slice (some ⟨g,0,none⟩) xs.length cg) xs.length (Es xs)):=ES ae bW;have ah:Hid (Wl xs/\xs.length<=gb (d+1)/\(gA=bA∨w.heap.size<=gA)/\Ak z3 gA (8*6) (vF V')/\BK I S 8 L 8 V' z' c'=true):=⟨au,by have:=PO (d+1);omega,AB,hA,al⟩
  obtain⟨r0,r1,r2⟩:=Z3.R.cells;have rf:=Z3.R.free;have rl:=Z3.R.lt;have a4:(Value.slice (some ⟨g,0,none⟩) xs.length cg).ownBlock≠some U:=Ar Z3.R HR Ad;clear f k' au ag ae an hA al s0;go_wp2_with fail;refine mY (.tuple #[.slice (some ⟨g,0,none⟩) xs.length cg,.agg #[.slice (some ⟨gA,0,none⟩) 8 aa,.int .i64 z',.int .i64 c']]) (by simp[results,Tryz.results86,go_sem, *]) ⟨g,cg,xs,gA,aa,V',z',c',rfl,ah.1,ah.2.1,ER HR a4 _ _ _,ah.2.2.1,EI ah.2.2.2.1 aY _ _ _,ah.2.2.2.2,GI Z3.F (by have:=BO.out;omega) _ _ _,Ez Z3.K (by have:=BO.out;omega) _ _ _⟩
 go_wp2_with fail;refine(Af p O n B 5 _ AB X1.K).mono ?_;rintro e y2⟨im,rfl,cY,dX,f,k'⟩;have X2:Hid (Ga w p O n B bH cH I S bR cR L bA cA V z c bs ba U y2):=X1.fw f k';clear f k' X1;go_upto_region 5 with fail;obtain⟨J,cV,b3,o3⟩:∃y,y2.alloc (.cells #[.int .i64 1,.int .i64 2,.int .i64 (m:Int),.int .i64 0,.int .i64 0,.int .i64 im,.int .i64 0,.int .i64 0,.int .i64 0,.int .i64 0,.int .i64 0,.int .i64 1,.int .i64 18,.int .i64 0,.int .i64 (m:Int),.int .i64 0,.int .i64 0,.int .i64 0,.int .i64 0,.int .i64 0,.int .i64 0,.int .i64 0] 117)=y/\Bw y2 y/\y.ownsRow y2.heap.size 117 11 (.slice (some ⟨y2.heap.size,0,none⟩) 2 2) 2 (Es [IB m im,Gv m]):=⟨_,rfl,Ai,World.ownsRow_lit y2 (Es [IB m im,Gv m]).toArray 2 (Nat.le_refl _) (by unfold maxLen;omega) rfl⟩
 rw[cV];have X3:Hid (Ga w p O n B bH cH I S bR cR L bA cA V z c bs ba U J):=X2.below b3;have cT:w.heap.size<=y2.heap.size:=X2.F.size;have aW:U<y2.heap.size:=X2.R.lt;obtain⟨fb,cy⟩:=Au (y2.heap.size);rw[cy]at cT aW o3⊢;have O3:Hid (J.ownsRow w.heap.size 117 11 (.slice (some ⟨fb,0,none⟩) [IB m im,Gv m].length 2) [IB m im,Gv m].length (Es [IB m im,Gv m])):=ES o3 cT;have cx:fb<J.heap.size:=(o3.lt _ rfl).2;clear cV b3 o3 cy X2;go_cut [14](fun dy wx=>∃(M gB cB:Nat)(VB:Nat->VV)(zB qB:Int),dy=.pointer (some ⟨M,0,none⟩)/\Bw J wx/\KV I S L J.heap.size M gB cB VB zB qB wx)
 case first=>
  have FI:Hid (∀k:World,Bw J k->∀i,i<22->k.cell? ⟨fb,i,none⟩=(Es [IB m im,Gv m])[i]?):=fun k h i hi=>(h.cell (p:=⟨fb,i,none⟩) cx).trans (O3.cellAt i hi)
  have f1:∀k,Bw J k->k.cell? ⟨fb,1,none⟩=some (.int .i64 2):=fun k h=>FI.out k h 1 AB
  have f2:∀k,Bw J k->k.cell? ⟨fb,2,none⟩=some (.int .i64 (m:Int)):=fun k h=>FI.out k h 2 AB
  have f3:∀k,Bw J k->k.cell? ⟨fb,3,none⟩=some (.int .i64 0):=fun k h=>FI.out k h 3 AB
  have f4:∀k,Bw J k->k.cell? ⟨fb,4,none⟩=some (.int .i64 0):=fun k h=>FI.out k h 4 AB
  have f5:∀k,Bw J k->k.cell? ⟨fb,5,none⟩=some (.int .i64 im):=fun k h=>FI.out k h 5 AB
  have f6:∀k,Bw J k->k.cell? ⟨fb,6,none⟩=some (.int .i64 0):=fun k h=>FI.out k h 6 AB
  have bE:∀k,Bw J k->k.cell? ⟨fb,12,none⟩=some (.int .i64 18):=fun k h=>FI.out k h 12 AB
  have bF:∀k,Bw J k->k.cell? ⟨fb,13,none⟩=some (.int .i64 0):=fun k h=>FI.out k h 13 AB
  have bG:∀k,Bw J k->k.cell? ⟨fb,14,none⟩=some (.int .i64 (m:Int)):=fun k h=>FI.out k h 14 AB
  have bI:∀k,Bw J k->k.cell? ⟨fb,15,none⟩=some (.int .i64 0):=fun k h=>FI.out k h 15 AB
  have bJ:∀k,Bw J k->k.cell? ⟨fb,16,none⟩=some (.int .i64 0):=fun k h=>FI.out k h 16 AB
  have bK:∀k,Bw J k->k.cell? ⟨fb,17,none⟩=some (.int .i64 0):=fun k h=>FI.out k h 17 AB
  have j0:∀k,Bw J k->k.cell? ⟨bs,0,none⟩=some (.slice (some ⟨bH,0,none⟩) I cH):=fun k h=>(X3.below h).cells.1.1
  have j1:∀k,Bw J k->k.cell? ⟨bs,1,none⟩=some (.slice (some ⟨bR,0,none⟩) 8 cR):=fun k h=>(X3.below h).cells.1.2
  have j2:∀k,Bw J k->k.cell? ⟨ba,0,none⟩=some (.slice (some ⟨bA,0,none⟩) 8 cA):=fun k h=>(X3.below h).cells.2.1.1
  have j3:∀k,Bw J k->k.cell? ⟨ba,1,none⟩=some (.int .i64 z):=fun k h=>(X3.below h).cells.2.1.2.1
  have j4:∀k,Bw J k->k.cell? ⟨ba,2,none⟩=some (.int .i64 c):=fun k h=>(X3.below h).cells.2.1.2.2
  have ff:∀(v:Value)(zz cc:Int)(w:World),(Instr.field 147 (.agg #[.int .i64 0,v,.int .i64 zz,.int .i64 cc]) 1).run Tryz.prog w=.ok (.agg #[v,.int .i64 zz,.int .i64 cc]) w:=fun v zz cc w=>by kernel_rfl
  refine wp_region_held_drew (S:=fun k=>Bw J k) AV BJ.drew (fun _=>?_);refine EX [0,1,2,3,4,5,6,9,10,11,12] ?_;have l:Bw J J.drew:=BJ.drew;generalize J.drew=t0 at l⊢;refine wpAnyH_ready (rs:=[7,15]) AV AX ?_;refine AllReadyH.cons rfl (fun KK D=>?_) (AllReadyH.cons rfl (fun KK D=>?_) AllReadyH.nil)
  ·skip
   go_simp;refine(Cw bH cH I S bR cR 8 L bA cA 8 V z c 2 (m:Int) 0 0 im 0 t0 (by have:=X3.lH;omega) AB AB (X3.below l).sc (X3.below l).G).mono ?_;rintro e t1 ai;obtain⟨g1,bg,V1,z1,q1,rfl,dj,A1,bk,hb⟩:=Qp ai X3.ok (Qj aO cY AB) (Or.inl rfl);have C:Bw J t1:=l.trans (hb.mono l.size);refine D.out _ _ C (fun _=>?_);clear D KK ai;refine Cn ?_;refine AU 8 ?_;have dD:=l.size;clear l hb;have l:=C;clear C;refine wpAnyH_ready (rs:=[13,15]) AV AX ?_;refine AllReadyH.cons rfl (fun KK D=>?_) (AllReadyH.cons rfl (fun KK D=>?_) AllReadyH.nil)
   ·skip
    go_simp;refine(Cw bH cH I S bR cR 8 L g1 bg 8 V1 z1 q1 18 0 (m:Int) 0 0 0 t1 (by have:=X3.lH;omega) AB AB (X3.below l).sc A1).mono ?_;rintro e t2 ai;obtain⟨g2,ak,V2,z2,q2,rfl,cu,A2,a8,hb⟩:=Qp ai bk (Kn aO) (Or.inr (Or.inr rfl));have C:Bw J t2:=l.trans (hb.mono l.size);refine D.out _ _ C (fun _=>?_);clear D KK ai;refine Cn ?_;refine AU 14 ?_;have da:=l.size;clear l hb;have l:=C;clear C;refine AO 15 rfl (fun KK D=>?_);go_simp;refine D.out _ _ (l.alloc l.size _) (fun _=>?_);clear D KK;refine Cn ?_;refine AO 16 rfl (fun KK D=>?_);go_simp;refine D.out _ _ (l.alloc l.size _) (fun _=>?_);clear D KK;refine wpAnyH_done AV ?_ _;have aS:Hid (KV I S L J.heap.size t2.heap.size g2 ak V2 z2 q2 (t2.alloc (.cells #[.slice (some ⟨g2,0,none⟩) 8 ak,.int .i64 z2,.int .i64 q2] 31))):=kE A2 a8 AB l.size;have BB:Hid (Bw J (t2.alloc (.cells #[.slice (some ⟨g2,0,none⟩) 8 ak,.int .i64 z2,.int .i64 q2] 31))):=l.alloc l.size _;clear j0 j1 j2 j3 j4 f1 f2 f3 f4 f5 f6 bE bF bG bI bJ bK ff;go_wp2_with fail;go_meet;exact⟨_,g2,ak,V2,z2,q2,rfl,BB,aS⟩
   ·skip
    go_simp;obtain⟨t4,aF,bn⟩:∃y,t1.alloc (.cells #[.slice none 0 0,.int .i64 0,.int .i64 0] 31)=y/\Bw t1 y:=⟨_,rfl,Ai⟩
    have nz:=V3.new t1 31 (.slice none 0 0) (.int .i64 0) (.int .i64 0);rw[aF]at nz⊢;have C:Bw J t4:=l.trans (bn.mono l.size);have ac:=l.size;have b6:=V3.lt nz;obtain⟨M,aA⟩:=Au (t1.heap.size);rw[aA]at nz ac b6⊢;refine D.out _ _ C (fun _=>?_);clear D KK aF;refine Cn ?_;have ce:=A1.below bn A1.lt;have dG:g1<M:=by have:=A1.lt;omega
    clear A1;have A1:=ce;clear ce;clear l bn aA;have l:=C;clear C;refine AO 13 rfl (fun KK D=>?_);go_simp;refine(Cw bH cH I S bR cR 8 L g1 bg 8 V1 z1 q1 18 0 (m:Int) 0 0 0 t4 (by have:=X3.lH;omega) AB AB (X3.below l).sc A1).mono ?_;rintro e t5 ai;obtain⟨g2,ak,V2,z2,q2,rfl,cu,A2,a8,hb⟩:=Qp ai bk (Kn aO) (Or.inr (Or.inr rfl));have C:Bw J t5:=l.trans (hb.mono l.size);refine D.out _ _ C (fun _=>?_);clear D KK ai;refine Cn ?_;refine AU 14 ?_;have da:=l.size;have cZ:=V3.lt nz;have av:=V3.below nz hb;clear nz;have nz:=av;clear av;clear l hb;have l:=C;clear C;obtain⟨e0,e1,e2⟩:=V3.cells nz;have ef:=V3.free nz;have el:=V3.lt nz;refine AO 16 rfl (fun KK D=>?_);go_simp;have bT:g2≠M:=AB;refine D.out _ _ ?hs (fun _=>?_)
    case hs=>
     exact((l.setCell (p:=⟨M,0,none⟩) ac _).setCell (p:=⟨M,1,none⟩) ac _).setCell (p:=⟨M,2,none⟩) ac _
    clear D KK;refine wpAnyH_done AV ?_ _;have aS:Hid (KV I S L J.heap.size M g2 ak V2 z2 q2 (((t5.setCell ⟨M,0,none⟩ (.slice (some ⟨g2,0,none⟩) 8 ak)).setCell ⟨M,1,none⟩ (.int .i64 z2)).setCell ⟨M,2,none⟩ (.int .i64 q2))):=Sj nz A2 a8 AB ac bT;have BB:Hid (Bw J (((t5.setCell ⟨M,0,none⟩ (.slice (some ⟨g2,0,none⟩) 8 ak)).setCell ⟨M,1,none⟩ (.int .i64 z2)).setCell ⟨M,2,none⟩ (.int .i64 q2))):=((l.setCell (p:=⟨M,0,none⟩) ac _).setCell (p:=⟨M,1,none⟩) ac _).setCell (p:=⟨M,2,none⟩) ac _;clear j0 j1 j2 j3 j4 f1 f2 f3 f4 f5 f6 bE bF bG bI bJ bK ff e0 e1 e2 ef el;go_wp2_with fail;go_meet;exact⟨_,g2,ak,V2,z2,q2,rfl,BB,aS⟩
  ·skip
   go_simp;obtain⟨t7,a5,bn⟩:∃y,t0.alloc (.cells #[.slice none 0 0,.int .i64 0,.int .i64 0] 31)=y/\Bw t0 y:=⟨_,rfl,Ai⟩
   have nz:=V3.new t0 31 (.slice none 0 0) (.int .i64 0) (.int .i64 0);rw[a5]at nz⊢;have C:Bw J t7:=l.trans (bn.mono l.size);have ac:=l.size;have b6:=V3.lt nz;obtain⟨M,aA⟩:=Au (t0.heap.size);rw[aA]at nz ac b6⊢;refine D.out _ _ C (fun _=>?_)
   clear D KK a5
   refine Cn ?_
   clear l bn aA
   have l:=C
   clear C
   refine AO 7 rfl (fun KK D=>?_)
   go_simp
   refine(Cw bH cH I S bR cR 8 L bA cA 8 V z c 2 (m:Int) 0 0 im 0 t7 (by have:=X3.lH;omega) AB AB (X3.below l).sc (X3.below l).G).mono ?_
   rintro e t8 ai
   obtain⟨g1,bg,V1,z1,q1,rfl,dj,A1,bk,hb⟩:=Qp ai X3.ok (Qj aO cY AB) (Or.inl rfl)
   have C:Bw J t8:=l.trans (hb.mono l.size)
   refine D.out _ _ C (fun _=>?_)
   clear D KK ai
   refine Cn ?_
   refine AU 8 ?_
   have dD:=l.size
   have dI:=V3.lt nz
   have av:=V3.below nz hb
   clear nz
   have nz:=av
   clear av
   clear l hb
   have l:=C
   clear C
   refine AO 13 rfl (fun KK D=>?_)
   go_simp
   refine(Cw bH cH I S bR cR 8 L g1 bg 8 V1 z1 q1 18 0 (m:Int) 0 0 0 t8 (by have:=X3.lH;omega) AB AB (X3.below l).sc A1).mono ?_
   rintro e t9 ai
   obtain⟨g2,ak,V2,z2,q2,rfl,cu,A2,a8,hb⟩:=Qp ai bk (Kn aO) (Or.inr (Or.inr rfl))
   have C:Bw J t9:=l.trans (hb.mono l.size)
   refine D.out _ _ C (fun _=>?_)
   clear D KK ai
   refine Cn ?_
   refine AU 14 ?_
   have da:=l.size
   have cZ:=V3.lt nz
   have av:=V3.below nz hb
   clear nz
   have nz:=av
   clear av
   clear l hb
   have l:=C
   clear C
   obtain⟨e0,e1,e2⟩:=V3.cells nz
   have ef:=V3.free nz
   have el:=V3.lt nz
   refine AO 16 rfl (fun KK D=>?_)
   go_simp
   have bT:g2≠M:=AB
   refine D.out _ _ ?hs (fun _=>?_)
   case hs=>
    exact((l.setCell (p:=⟨M,0,none⟩) ac _).setCell (p:=⟨M,1,none⟩) ac _).setCell (p:=⟨M,2,none⟩) ac _
   clear D KK
   refine wpAnyH_done AV ?_ _
   have aS:Hid (KV I S L J.heap.size M g2 ak V2 z2 q2 (((t9.setCell ⟨M,0,none⟩ (.slice (some ⟨g2,0,none⟩) 8 ak)).setCell ⟨M,1,none⟩ (.int .i64 z2)).setCell ⟨M,2,none⟩ (.int .i64 q2))):=Sj nz A2 a8 AB ac bT
   have BB:Hid (Bw J (((t9.setCell ⟨M,0,none⟩ (.slice (some ⟨g2,0,none⟩) 8 ak)).setCell ⟨M,1,none⟩ (.int .i64 z2)).setCell ⟨M,2,none⟩ (.int .i64 q2))):=((l.setCell (p:=⟨M,0,none⟩) ac _).setCell (p:=⟨M,1,none⟩) ac _).setCell (p:=⟨M,2,none⟩) ac _
   clear j0 j1 j2 j3 j4 f1 f2 f3 f4 f5 f6 bE bF bG bI bJ bK ff e0 e1 e2 ef el
   go_wp2_with fail
   go_meet
   exact⟨_,g2,ak,V2,z2,q2,rfl,BB,aS⟩
 case rest=>
 obtain⟨M,gB,cB,VB,zB,qB,rfl,hb,kv⟩:=hcut
 have KB:=hxy kv
 have X4:Hid (Ga w p O n B bH cH I S bR cR L bA cA V z c bs ba U wc):=X3.below hb
 have O4:Hid (wc.ownsRow w.heap.size 117 11 (.slice (some ⟨fb,0,none⟩) [IB m im,Gv m].length 2) [IB m im,Gv m].length (Es [IB m im,Gv m])):=BM O3 hb
 have bd:=hxy hb.size
 clear hb kv X3 O3
 generalize wc=y4 at KB X4 O4 bd⊢
 obtain⟨b0,b1,b2⟩:=KB.N.cells
 have bl:=KB.N.lt
 go_wp2_with fail
 refine(J8 gB cB VB zB qB y4 KB.A).mono ?_
 rintro e y5⟨Q,cI,dO,rfl,hb,AI⟩
 have a9:KV I S L J.heap.size y5.heap.size Q cI VB zB qB (y5.alloc (.cells #[.slice (some ⟨Q,0,none⟩) 8 cI,.int .i64 zB,.int .i64 qB] 31)):=kE AI KB.ok (by have:=bd.out;omega) (by have:=bd.out;have:=hb.size;omega)
 have bn:Bw y5 (y5.alloc (.cells #[.slice (some ⟨Q,0,none⟩) 8 cI,.int .i64 zB,.int .i64 qB] 31)):=Ai
 obtain⟨y6,cW⟩:=Au (y5.alloc (.cells #[.slice (some ⟨Q,0,none⟩) 8 cI,.int .i64 zB,.int .i64 qB] 31))
 rw[cW]at a9 bn
 have bf:Bw y4 y6:=hb.trans (bn.mono hb.size)
 have X6:Hid (Ga w p O n B bH cH I S bR cR L bA cA V z c bs ba U y6):=X4.below bf
 have O6:Hid (y6.ownsRow w.heap.size 117 11 (.slice (some ⟨fb,0,none⟩) [IB m im,Gv m].length 2) [IB m im,Gv m].length (Es [IB m im,Gv m])):=BM O4 bf
 have cj:Hid (KV I S L J.heap.size M gB cB VB zB qB y6):=KB.below bf
 have ct:=AI.lt
 have dq:=KB.A.lt
 have aA:=KB.N.lt
 have dn:fb<y4.heap.size:=(O4.lt _ rfl).2
 have dl:=hb.size
 go_upto_region 7 with fail
 obtain⟨ni,cN⟩:=Au (y5.heap.size)
 rw[cN]at a9 ct⊢
 have KI:=hxy a9
 have NE:Hid (Q≠ni/\Q≠gB/\Q≠M/\Q≠fb/\ni≠gB/\ni≠M/\ni≠fb/\J.heap.size<=Q):=⟨AB,AB,AB,AB,AB,AB,AB,by have:=bd.out;omega⟩
 clear cW bn bf hb AI a9 KB X4 O4 b0 b1 b2 bl cN ct dq aA dn dl
 have cr:Hid (Q≠U/\Q≠bA/\w.heap.size<=J.heap.size/\U<J.heap.size/\fb<J.heap.size):=⟨by have:=NE.out;omega,by have:=NE.out;have:=LA.out;omega,AB,AB,cx⟩
 go_cut [15](fun dz wx=>dz=.pointer (some ⟨ni,0,none⟩)/\Ga w p O n B bH cH I S bR cR L bA cA V z c bs ba U wx/\wx.ownsRow w.heap.size 117 11 (.slice (some ⟨fb,0,none⟩) [IB m im,Gv m].length 2) [IB m im,Gv m].length (Es [IB m im,Gv m])/\KV I S L J.heap.size M gB cB VB zB qB wx/\∃VI,KV I S L J.heap.size ni Q cI VI zB qB wx)
 case first=>
  have j0:∀k,Tn (some Q) y6 k->k.cell? ⟨ni,0,none⟩=some (.slice (some ⟨Q,0,none⟩) 8 cI):=fun k h=>(KI.N.tn h (by intro e;exact NE.1 (Option.some.inj e))).cells.1
  have dV:(m:Int)<8:=AB
  refine wp_region_held_drew (S:=fun k=>Tn (some Q) y6 k) AV (Tn.of BJ.drew) (fun _=>?_)
  refine EX [0,1,2] ?_
  have l:Bw y6 y6.drew:=BJ.drew
  generalize y6.drew=t0 at l⊢
  refine AO 3 rfl (fun KK D=>?_)
  go_simp
  refine(BN false (-1) _).mono ?_
  rintro e t1⟨rfl,hb⟩
  have az:Bw y6 t1:=l.trans (hb.mono l.size)
  refine D.out _ _ (Tn.of az) (fun _=>?_)
  clear D KK hb l
  unfold VV.v
  refine Cn ?_
  refine AU 4 ?_
  have K1:=KI.below az
  have AR:=OM K1.A (show m<8 by omega) (Al false (-1))
  obtain⟨q0,q1,q2,q3,q4,q5⟩:=Un K1.A (show m<8 by omega)
  have qf:=K1.A.free
  have ql:=K1.A.lt
  obtain⟨t2,aM⟩:=Au (Ff t1 Q (m*6) (Al false (-1)))
  have E:Hid (Ga w p O n B bH cH I S bR cR L bA cA V z c bs ba U t2/\t2.ownsRow w.heap.size 117 11 (.slice (some ⟨fb,0,none⟩) [IB m im,Gv m].length 2) [IB m im,Gv m].length (Es [IB m im,Gv m])/\KV I S L J.heap.size M gB cB VB zB qB t2/\KV I S L J.heap.size ni Q cI (Df VB m (Al false (-1))) zB qB t2/\Tn (some Q) y6 t2):=(by
   have n1:=NE.out
   have n2:=cr.out
   have r1:=BM O6 az
   have dp:(Value.slice (some ⟨fb,0,none⟩) [IB m im,Gv m].length 2).ownBlock≠some Q:=by intro e;have e1:fb=Q:=Option.some.inj e;omega
   have aP:∀{v:World}(j:Nat)(x:Value),v.ownsRow w.heap.size 117 11 (.slice (some ⟨fb,0,none⟩) [IB m im,Gv m].length 2) [IB m im,Gv m].length (Es [IB m im,Gv m])->(v.setCell ⟨Q,j,none⟩ x).ownsRow w.heap.size 117 11 (.slice (some ⟨fb,0,none⟩) [IB m im,Gv m].length 2) [IB m im,Gv m].length (Es [IB m im,Gv m]):=fun j x h=>CV h dp j x
   have aK:∀{v:World}(j:Nat)(x:Value),Ga w p O n B bH cH I S bR cR L bA cA V z c bs ba U v->Ga w p O n B bH cH I S bR cR L bA cA V z c bs ba U (v.setCell ⟨Q,j,none⟩ x):=fun j x h=>h.put AB AB j x
   have aN:∀{v:World}(j:Nat)(x:Value),KV I S L J.heap.size M gB cB VB zB qB v->KV I S L J.heap.size M gB cB VB zB qB (v.setCell ⟨Q,j,none⟩ x):=fun j x h=>h.put AB AB j x
   have aR:∀{v:World}(j:Nat)(x:Value),V3 v ni 31 (.slice (some ⟨Q,0,none⟩) 8 cI) (.int .i64 zB) (.int .i64 qB)->V3 (v.setCell ⟨Q,j,none⟩ x) ni 31 (.slice (some ⟨Q,0,none⟩) 8 cI) (.int .i64 zB) (.int .i64 qB):=fun j x h=>h.put AB j x
   have aQ:∀{v:World}(j:Nat)(x:Value),Tn (some Q) y6 v->Tn (some Q) y6 (v.setCell ⟨Q,j,none⟩ x):=fun j x h q hq hn=>(Below.heap_setCell _ ⟨Q,j,none⟩ x q (fun e=>hn (by rw[e]))).trans (h q hq hn)
   subst aM
   unfold Ff
   refine⟨aK _ _ (aK _ _ (aK _ _ (aK _ _ (aK _ _ (aK _ _ (X6.below az)))))),aP _ _ (aP _ _ (aP _ _ (aP _ _ (aP _ _ (aP _ _ r1))))),aN _ _ (aN _ _ (aN _ _ (aN _ _ (aN _ _ (aN _ _ (cj.below az)))))),⟨aR _ _ (aR _ _ (aR _ _ (aR _ _ (aR _ _ (aR _ _ K1.N))))),?_,Zb K1.ok (Jg _ _ _) (Co.1 K1.ok).2.2.2.1 (Co.1 K1.ok).2.2.2.2,K1.ge,K1.gn⟩,aQ _ _ (aQ _ _ (aQ _ _ (aQ _ _ (aQ _ _ (aQ _ _ (Tn.of az))))))⟩
   unfold Ff at AR
   exact AR:Ga w p O n B bH cH I S bR cR L bA cA V z c bs ba U t2/\t2.ownsRow w.heap.size 117 11 (.slice (some ⟨fb,0,none⟩) [IB m im,Gv m].length 2) [IB m im,Gv m].length (Es [IB m im,Gv m])/\KV I S L J.heap.size M gB cB VB zB qB t2/\KV I S L J.heap.size ni Q cI (Df VB m (Al false (-1))) zB qB t2/\Tn (some Q) y6 t2)
  unfold Ff at aM
  clear AR K1 az
  refine AO 5 rfl (fun KK D=>?_)
  go_simp
  try rw[aM]
  refine D.out _ _ E.2.2.2.2 (fun _=>?_)
  clear D KK aM j0 q0 q1 q2 q3 q4 q5 qf ql
  refine wpAnyH_done AV ?_ _
  go_wp2_with fail
  go_meet
  exact⟨rfl,E.1,E.2.1,E.2.2.1,_,E.2.2.2.1⟩
 case rest=>
 obtain⟨rfl,x7,o7,a7,VI,bj⟩:=hcut
 have cm:Hid (ni≠M/\ni≠gB):=⟨NE.2.2.2.2.2.1,NE.2.2.2.2.1⟩
 generalize wc=y7 at x7 o7 a7 bj⊢
 have L7:Hid (∀u xb,y7.heap.size<=xb->Bw y7 u->u.ownsRow y7.heap.size 117 11 (.slice (some ⟨xb,0,none⟩) 0 0) 0 (Es [])->LQ w p O n B bH cH I S bR cR L bA cA V z c bs ba U J.heap.size fb 2 [IB m im,Gv m] M gB cB VB zB qB ni Q cI VI zB qB xb 0 [] u):=fun u xb bi hb o=>by
  have n1:=NE.out
  have n2:=cr.out
  have l1:fb<y7.heap.size:=(o7.lt fb rfl).2
  have l2:=a7.A.lt
  have l3:=bj.A.lt
  have l4:=x7.F.size
  exact⟨x7.below hb,BM o7 hb,ES o l4,a7.below hb,bj.below hb,AB,AB,AB,by have:=a7.ge;omega,AB,AB,AB,LA⟩
 have W7:=hxy x7.F.size
 clear x7 o7 a7 bj X6 O6 cj KI
 obtain⟨dd,dm⟩:∃dd:Nat,((m:Int)-3)%4+4=(dd:Int):=⟨(((m:Int)-3)%4+4).toNat,AB⟩
 have di:dd<=7:=AB
 go_upto_region 10 with fail
 obtain⟨y8,cX,b8,b5,m8⟩:∃y,(y7.alloc (.cells #[] 117)).alloc (.cells #[.int .i64 11,.int .i64 (dd:Int),.int .i64 (m:Int),.int .i64 0,.int .i64 7,.int .i64 0] 99)=y/\Bw y7 y/\LQ w p O n B bH cH I S bR cR L bA cA V z c bs ba U J.heap.size fb 2 [IB m im,Gv m] M gB cB VB zB qB ni Q cI VI zB qB y7.heap.size 0 [] y/\Ib y (y7.heap.size+1) ⟨11,(dd:Int),(m:Int),0,7,0⟩:=by
  have e1:(y7.alloc (.cells #[] 117)).heap.size=y7.heap.size+1:=AX
  have o1:(y7.alloc (.cells #[] 117)).ownsRow y7.heap.size 117 11 (.slice (some ⟨y7.heap.size,0,none⟩) 0 0) 0 []:=World.ownsRow_lit y7 #[] 0 (Nat.le_refl _) (by unfold maxLen;omega) rfl
  have b1:Bw y7 ((y7.alloc (.cells #[] 117)).alloc (.cells #[.int .i64 11,.int .i64 (dd:Int),.int .i64 (m:Int),.int .i64 0,.int .i64 7,.int .i64 0] 99)):=(Ai).alloc AX _
  refine⟨_,rfl,b1,L7 _ _ (Nat.le_refl _) b1 (BM o1 (Ai)),?_⟩
  rw[<-e1]
  exact Az _ _
 try rw[cX]
 obtain⟨xb,bi⟩:=Au (y7.heap.size)
 obtain⟨nm,bU⟩:=Au (y7.heap.size+1)
 rw[bU]at m8
 rw[bi]at b5
 try rw[bU]
 try rw[bi]
 have Q8:=hxy b5
 have M8:=hxy m8
 have du:nm≠p:=by have:=W7.out;omega
 clear cX b8 b5 m8 bi bU dm L7
 go_cut [79](fun dC wx=>∃b:Bool,dC=.bool b/\LQ w p O n B bH cH I S bR cR L bA cA V z c bs ba U J.heap.size fb 2 [IB m im,Gv m] M gB cB VB zB qB ni Q cI VI zB qB xb 0 [] wx/\Ib wx nm ⟨11,(dd:Int),(m:Int),0,7,0⟩)
 case first=>
  go_wp2_with fail
  refine(Ed p O n B 2 _ AB Q8.X.K).mono ?_
  rintro e y9⟨b9,rfl,f,k'⟩
  have Q9:Hid (LQ w p O n B bH cH I S bR cR L bA cA V z c bs ba U J.heap.size fb 2 [IB m im,Gv m] M gB cB VB zB qB ni Q cI VI zB qB xb 0 [] y9):=Q8.fw f k'
  have M9:Hid (Ib y9 nm ⟨11,(dd:Int),(m:Int),0,7,0⟩):=M8.fw f du
  clear f k' Q8 M8
  have m0:=M9.cells
  cases b9 with
  |false=>
   go_wp2_with fail
   go_meet
   exact⟨_,rfl,Q9,M9⟩
  |true=>
   go_wp2_with fail
   go_meet
   exact⟨_,rfl,Q9,M9⟩
 case rest=>
 obtain⟨dh,rfl,q9,m9⟩:=hcut
 generalize wc=y9 at q9 m9⊢
 have Q9:=hxy q9
 have M9:=hxy m9
 clear q9 m9 Q8 M8
 go_upto_if 79 with fail
 go_cut [16](fun dA wx=>∃(xg xc:Nat)(xs:List SV)(Q cI:Nat)(VI:Nat->VV)(zI qI:Int),dA=.slice (some ⟨xg,0,none⟩) xs.length xc/\Wl xs/\xs.length<=1/\LQ w p O n B bH cH I S bR cR L bA cA V z c bs ba U J.heap.size fb 2 [IB m im,Gv m] M gB cB VB zB qB ni Q cI VI zI qI xg xc xs wx)
 case first=>
  cases dh with
  |false=>
   go_wp2_with fail
   go_meet
   exact⟨xb,0,[],Q,cI,VI,zB,qB,rfl,.nil,AX,Q9⟩
  |true=>
   have m0:=M9.cells
   obtain⟨ms,bS⟩:∃ms:SV,Og ⟨11,(dd:Int),(m:Int),0,7,0⟩=ms:=⟨_,rfl⟩
   obtain⟨t1,dv,b1,o1⟩:∃y,y9.alloc (.cells #[.int .i64 1,.int .i64 11,.int .i64 (dd:Int),.int .i64 (m:Int),.int .i64 0,.int .i64 7,.int .i64 0,.int .i64 0,.int .i64 0,.int .i64 0,.int .i64 0] 117)=y/\Bw y9 y/\y.ownsRow y9.heap.size 117 11 (.slice (some ⟨y9.heap.size,0,none⟩) [ms].length 1) [ms].length (Es [ms]):=⟨_,rfl,Ai,by rw[Nj,<-bS];exact World.ownsRow_lit y9 (RJ (Og ⟨11,(dd:Int),(m:Int),0,7,0⟩)).toArray 1 (Nat.le_refl _) (by unfold maxLen;omega) rfl⟩
   have aj:=Q9.below b1
   obtain⟨g2,c2,t2,bv,o2,bQ,cC⟩:=Ju t1 w.heap.size xb 0 [] aj.Bo _ y9.heap.size 1 [ms] o1 AX (by have:=aj.X.F.size;omega)
   have af:Hid (LQ w p O n B bH cH I S bR cR L bA cA V z c bs ba U J.heap.size fb 2 [IB m im,Gv m] M gB cB VB zB qB ni Q cI VI zB qB g2 c2 ([]++[ms]) t2):=aj.growX bQ o2 cC
   have ck:Hid (Ib t2 nm ⟨11,(dd:Int),(m:Int),0,7,0⟩):=Be (M9.below b1) bQ (Ar (M9.below b1) aj.Bo Ad)
   have df:Hid (Wl ([]++[ms])):=(by rw[<-bS];exact ZY _:Wl ([]++[ms]))
   clear aj o2 bQ bS Q9 M9
   go_upto_region 12 with(first|(at_builtin;refine FO rfl _ _ 27 rfl rfl rfl bv ?_))
   clear bv dv b1 o1 m0
   have s0:=af.X.cells
   have i0:=af.KI.N.cells
   have il:=af.KI.N.lt
   have m0:=ck.cells
   have ff:∀(v:Value)(zz cc:Int)(w:World),(Instr.field 147 (.agg #[.int .i64 0,v,.int .i64 zz,.int .i64 cc]) 1).run Tryz.prog w=.ok (.agg #[v,.int .i64 zz,.int .i64 cc]) w:=fun v zz cc w=>by kernel_rfl
   go_wp2_with fail
   refine(Cw bH cH I S bR cR 8 L Q cI 8 VI zB qB 11 (dd:Int) (m:Int) 0 7 0 t2 (by have:=af.X.lH;omega) AB AB af.X.sc af.KI.A).mono ?_
   rintro e t3 ai
   obtain⟨g5,bD,V5,z5,q5,rfl,dN,A5,c8,hb⟩:=Qp ai af.KI.ok (Vn aO di) (Or.inr (Or.inl rfl))
   have ay:=af.below hb
   have l1:fb<t2.heap.size:=(af.Fr.lt fb rfl).2
   have l2:g2<t2.heap.size:=(af.Bo.lt g2 rfl).2
   have l3:=af.KI.N.lt
   have l4:=af.KI.A.lt
   have l5:=af.KI.ge
   have aJ:Hid (LQ w p O n B bH cH I S bR cR L bA cA V z c bs ba U J.heap.size fb 2 [IB m im,Gv m] M gB cB VB zB qB ni g5 bD V5 z5 q5 g2 c2 ([]++[ms]) (((t3.setCell ⟨ni,0,none⟩ (.slice (some ⟨g5,0,none⟩) 8 bD)).setCell ⟨ni,1,none⟩ (.int .i64 z5)).setCell ⟨ni,2,none⟩ (.int .i64 q5))):=ay.putI A5 c8 AB AB AB AB cm.1 cm.2
   obtain⟨n0,n1,n2⟩:=ay.KI.N.cells
   have nf:=ay.KI.N.free
   have nl:=ay.KI.N.lt
   clear ai hb ay A5 c8 s0 i0 il m0 af ck l1 l2 l3 l4 l5
   go_wp2_with fail
   go_meet
   exact⟨g2,c2,[]++[ms],g5,bD,V5,z5,q5,rfl,df,AX,aJ⟩
 case rest=>
 obtain⟨xg,xc,xs,Q,cI,VI,zI,qI,rfl,dc,bB,b7⟩:=hcut
 generalize wc=ad at b7⊢
 have aj:=hxy b7
 have cp:Hid (Wl xs/\xs.length<=1):=⟨dc,bB⟩
 clear b7 dc bB Q9 M9
 go_upto_region 13 with fail
 go_cut [18](fun dB wx=>∃(g cg:Nat)(ms:List SV)(np gA aa:Nat)(V':Nat->VV)(z' c':Int),dB=.slice (some ⟨g,0,none⟩) ms.length cg/\Wl ms/\ms.length<=4*gb d/\DR I S L Q ad p O n B g cg ms np gA aa V' z' c' wx)
 case first=>
  have SS:∀k,Fw p ad k/\CJ k p O n B->LQ w p O n B bH cH I S bR cR L bA cA V z c bs ba U J.heap.size fb 2 [IB m im,Gv m] M gB cB VB zB qB ni Q cI VI zI qI xg xc xs k:=fun k h=>aj.fw h.1 h.2
  have j0:∀k,Fw p ad k/\CJ k p O n B->k.cell? ⟨bs,0,none⟩=some (.slice (some ⟨bH,0,none⟩) I cH):=fun k h=>(SS k h).X.cells.1.1
  have j1:∀k,Fw p ad k/\CJ k p O n B->k.cell? ⟨bs,1,none⟩=some (.slice (some ⟨bR,0,none⟩) 8 cR):=fun k h=>(SS k h).X.cells.1.2
  have j2:∀k,Fw p ad k/\CJ k p O n B->k.cell? ⟨ni,0,none⟩=some (.slice (some ⟨Q,0,none⟩) 8 cI):=fun k h=>(SS k h).KI.N.cells.1
  have j3:∀k,Fw p ad k/\CJ k p O n B->k.cell? ⟨ni,1,none⟩=some (.int .i64 zI):=fun k h=>(SS k h).KI.N.cells.2.1
  have j4:∀k,Fw p ad k/\CJ k p O n B->k.cell? ⟨ni,2,none⟩=some (.int .i64 qI):=fun k h=>(SS k h).KI.N.cells.2.2
  have dW:IntKind.i64.wrap (d:Int)=(d:Int):=by rw[IntKind.wrap_i64]<;>omega
  have bC:=hxy SS
  have cO:p<ad.heap.size:=by have:=aj.X.F.size;omega
  have cv:Q<ad.heap.size:=aj.KI.A.lt
  have aX:Q≠p:=by have:=aj.KI.ge;have:=aj.w1;omega
  clear SS
  refine wp_region_held_drew (S:=fun k=>Fw p ad k/\CJ k p O n B) AV ⟨.of_below BJ.drew,aj.X.K.below BJ.drew⟩ (fun hH=>?_)
  refine EX [0,1,2,3,6,7,8] ?_
  generalize ad.drew=t0 at hH⊢
  have q0:=hH
  clear hH
  refine wpAnyH_ready (rs:=[4,13]) AV AX ?_
  refine AllReadyH.cons rfl (fun KK D=>?_) (AllReadyH.cons rfl (fun KK D=>?_) AllReadyH.nil)
  ·skip
   go_simp
   refine(Af p O n B 4 _ AB q0.2).mono ?_
   rintro e t1⟨md,rfl,GQ,dw,f,k'⟩
   have Z:Fw p ad t1/\CJ t1 p O n B:=⟨q0.1.trans f,k'⟩
   refine D.out _ _ Z (fun _=>?_)
   clear D KK q0 f k'
   have q0:=Z
   clear Z
   obtain⟨mn,aZ⟩:∃mn:Nat,1+md=(mn:Int):=⟨(1+md).toNat,AB⟩
   have aI:mn<=4:=AB
   have bX:IntKind.i64.wrap (mn:Int)=(mn:Int):=by rw[IntKind.wrap_i64]<;>omega
   refine Cn ?_
   refine AU 5 ?_
   try rw[aZ]
   clear aZ bX
   refine wpAnyH_ready (rs:=[9,13]) AV AX ?_
   refine AllReadyH.cons rfl (fun KK D=>?_) (AllReadyH.cons rfl (fun KK D=>?_) AllReadyH.nil)
   ·skip
    go_simp
    have gx:=bC.out _ q0
    refine(IH p O n B bH cH I S bR cR L Q cI VI zI qI mn _ _ AB q0.2 gx.X.sc gx.KI.A gx.KI.ok gx.X.p1 gx.X.p2 aX).mono ?_
    rintro e t2⟨g,cg,ms,gA,aa,V',z',c',rfl,au,ag,ae,an,hA,al,f,k'⟩
    have Z:Fw p ad t2/\CJ t2 p O n B:=⟨q0.1.trans f,k'⟩
    refine D.out _ _ Z (fun _=>?_)
    clear D KK
    refine Cn ?_
    refine EX [10,11,12] ?_
    have ar:ms.length<=4*gb d:=Nat.le_trans ag (Nat.mul_le_mul_right _ aI)
    have DD:Hid (DR I S L Q ad p O n B g cg ms t2.heap.size gA aa V' z' c' (t2.alloc (.cells #[.slice (some ⟨gA,0,none⟩) 8 aa,.int .i64 z',.int .i64 c'] 31))):=Vf q0.1 ae an hA al f k'
    clear gx ag ae an hA al f k' q0 j0 j1 j2 j3 j4
    refine AO 13 rfl (fun KK D=>?_)
    go_simp
    refine D.out _ _ ⟨Z.1.trans (.of_below (Ai)),Z.2.below (Ai)⟩ (fun _=>?_)
    clear D KK
    refine Cn ?_
    refine AU 14 ?_
    refine AO 15 rfl (fun KK D=>?_)
    go_simp
    refine D.out _ _ ⟨DD.F,DD.K⟩ (fun _=>?_)
    clear D KK Z
    refine wpAnyH_done AV ?_ _
    go_wp2_with fail
    go_meet
    exact⟨g,cg,ms,_,gA,aa,V',z',c',rfl,au,ar,DD⟩
   ·skip
    go_simp
    obtain⟨t4,aF,bn⟩:∃y,t1.alloc (.cells #[.slice none 0 0,.int .i64 0,.int .i64 0] 31)=y/\Bw t1 y:=⟨_,rfl,Ai⟩
    have nz:=V3.new t1 31 (.slice none 0 0) (.int .i64 0) (.int .i64 0)
    rw[aF]at nz⊢
    have Z:Fw p ad t4/\CJ t4 p O n B:=⟨q0.1.trans (.of_below bn),q0.2.below bn⟩
    have ac:=q0.1.size
    obtain⟨np,a3⟩:=Au (t1.heap.size)
    rw[a3]at nz ac⊢
    refine D.out _ _ Z (fun _=>?_)
    clear D KK q0 aF bn a3
    have q0:=Z
    clear Z
    refine Cn ?_
    refine AO 9 rfl (fun KK D=>?_)
    go_simp
    have gx:=bC.out _ q0
    refine(IH p O n B bH cH I S bR cR L Q cI VI zI qI mn _ _ AB q0.2 gx.X.sc gx.KI.A gx.KI.ok gx.X.p1 gx.X.p2 aX).mono ?_
    rintro e t5⟨g,cg,ms,gA,aa,V',z',c',rfl,au,ag,ae,an,hA,al,f,k'⟩
    have Z:Fw p ad t5/\CJ t5 p O n B:=⟨q0.1.trans f,k'⟩
    refine D.out _ _ Z (fun _=>?_)
    clear D KK
    refine Cn ?_
    refine EX [10,11,12,14] ?_
    have ar:ms.length<=4*gb d:=Nat.le_trans ag (Nat.mul_le_mul_right _ aI)
    have DD:Hid (DR I S L Q ad p O n B g cg ms np gA aa V' z' c' (((t5.setCell ⟨np,0,none⟩ (.slice (some ⟨gA,0,none⟩) 8 aa)).setCell ⟨np,1,none⟩ (.int .i64 z')).setCell ⟨np,2,none⟩ (.int .i64 c'))):=Ky q0.1 cO cv nz ac ae an hA al f k'
    have nv:=Ct nz f AB
    obtain⟨e0,e1,e2⟩:=V3.cells nv
    have ef:=V3.free nv
    have el:=V3.lt nv
    clear nv nz gx ag ae an hA al f k' q0 j0 j1 j2 j3 j4
    refine AO 15 rfl (fun KK D=>?_)
    go_simp
    refine D.out _ _ ⟨DD.F,DD.K⟩ (fun _=>?_)
    clear D KK Z
    refine wpAnyH_done AV ?_ _
    go_wp2_with fail
    go_meet
    exact⟨g,cg,ms,_,gA,aa,V',z',c',rfl,au,ar,DD⟩
  ·skip
   go_simp
   obtain⟨t7,a5,bn⟩:∃y,t0.alloc (.cells #[.slice none 0 0,.int .i64 0,.int .i64 0] 31)=y/\Bw t0 y:=⟨_,rfl,Ai⟩
   have nz:=V3.new t0 31 (.slice none 0 0) (.int .i64 0) (.int .i64 0)
   rw[a5]at nz⊢
   have Z:Fw p ad t7/\CJ t7 p O n B:=⟨q0.1.trans (.of_below bn),q0.2.below bn⟩
   have ac:=q0.1.size
   obtain⟨np,a3⟩:=Au (t0.heap.size)
   rw[a3]at nz ac⊢
   refine D.out _ _ Z (fun _=>?_)
   clear D KK q0 a5 bn a3
   have q0:=Z
   clear Z
   refine Cn ?_
   refine AO 4 rfl (fun KK D=>?_)
   go_simp
   refine(Af p O n B 4 _ AB q0.2).mono ?_
   rintro e t8⟨md,rfl,GQ,dw,f,k'⟩
   have Z:Fw p ad t8/\CJ t8 p O n B:=⟨q0.1.trans f,k'⟩
   have av:V3 t8 np 31 (.slice none 0 0) (.int .i64 0) (.int .i64 0):=Ct nz f AB
   refine D.out _ _ Z (fun _=>?_)
   clear D KK q0 f k' nz
   have q0:=Z
   clear Z
   obtain⟨mn,aZ⟩:∃mn:Nat,1+md=(mn:Int):=⟨(1+md).toNat,AB⟩
   have aI:mn<=4:=AB
   have bX:IntKind.i64.wrap (mn:Int)=(mn:Int):=by rw[IntKind.wrap_i64]<;>omega
   refine Cn ?_
   refine AU 5 ?_
   try rw[aZ]
   clear aZ bX
   have nz:=av
   clear av
   refine AO 9 rfl (fun KK D=>?_)
   go_simp
   have gx:=bC.out _ q0
   refine(IH p O n B bH cH I S bR cR L Q cI VI zI qI mn _ _ AB q0.2 gx.X.sc gx.KI.A gx.KI.ok gx.X.p1 gx.X.p2 aX).mono ?_
   rintro e t9⟨g,cg,ms,gA,aa,V',z',c',rfl,au,ag,ae,an,hA,al,f,k'⟩
   have Z:Fw p ad t9/\CJ t9 p O n B:=⟨q0.1.trans f,k'⟩
   refine D.out _ _ Z (fun _=>?_)
   clear D KK
   refine Cn ?_
   refine EX [10,11,12,14] ?_
   have ar:ms.length<=4*gb d:=Nat.le_trans ag (Nat.mul_le_mul_right _ aI)
   have DD:Hid (DR I S L Q ad p O n B g cg ms np gA aa V' z' c' (((t9.setCell ⟨np,0,none⟩ (.slice (some ⟨gA,0,none⟩) 8 aa)).setCell ⟨np,1,none⟩ (.int .i64 z')).setCell ⟨np,2,none⟩ (.int .i64 c'))):=Ky q0.1 cO cv nz ac ae an hA al f k'
   have nv:=Ct nz f AB
   obtain⟨e0,e1,e2⟩:=V3.cells nv
   have ef:=V3.free nv
   have el:=V3.lt nv
   clear nv nz gx ag ae an hA al f k' q0 j0 j1 j2 j3 j4
   refine AO 15 rfl (fun KK D=>?_)
   go_simp
   refine D.out _ _ ⟨DD.F,DD.K⟩ (fun _=>?_)
   clear D KK Z
   refine wpAnyH_done AV ?_ _
   go_wp2_with fail
   go_meet
   exact⟨g,cg,ms,_,gA,aa,V',z',c',rfl,au,ar,DD⟩
 case rest=>
 obtain⟨mg,mc,ms,np,gA,aa,V',z',c',rfl,db,bw,dr⟩:=hcut
 generalize wc=de at dr⊢
 have af:Hid (LQ w p O n B bH cH I S bR cR L bA cA V z c bs ba U J.heap.size fb 2 [IB m im,Gv m] M gB cB VB zB qB ni Q cI VI zI qI xg xc xs de):=aj.fw dr.F dr.K
 have RM:=hxy dr.row
 have co:Hid (Wl ms/\ms.length<=4*gb d):=⟨db,bw⟩
 have dE:Hid (xg<ad.heap.size/\fb<ad.heap.size):=⟨(aj.Bo.lt xg rfl).2,(aj.Fr.lt fb rfl).2⟩
 clear db bw dr aj
 have dQ:gb d<=1000:=Xz hd
 have dS:xs.length<=1:=cp.2
 have dR:ms.length<=4*gb d:=co.2
 obtain⟨g2,c2,t1,aB,o1,cz,bo⟩:=Ju de w.heap.size xg xc xs af.Bo _ mg mc ms RM AB af.X.F.size
 obtain⟨zs,bZ⟩:=Au (xs++ms)
 rw[bZ]at aB o1
 have ch:Hid (Wl zs/\zs.length<=1+4*gb d):=(by rw[<-bZ];exact⟨cp.1.app co.1,by simp;omega⟩:Wl zs/\zs.length<=1+4*gb d)
 have ay:Hid (LQ w p O n B bH cH I S bR cR L bA cA V z c bs ba U J.heap.size fb 2 [IB m im,Gv m] M gB cB VB zB qB ni Q cI VI zI qI g2 c2 zs t1):=af.growX cz o1 bo
 clear o1 cz bo af RM bZ
 have dU:zs.length<=1+4*gb d:=ch.2
 go_upto_region 15 with(first|(at_builtin;refine FO rfl _ _ 27 rfl rfl rfl aB ?_))
 clear aB
 obtain⟨e1,bP⟩:∃e:SV,(⟨1,10,(m:Int),(m:Int),0,-1,0,0,0,0,0⟩:SV)=e:=⟨_,rfl⟩
 obtain⟨t2,aM,b2,o2⟩:∃y,t1.alloc (.cells #[.int .i64 1,.int .i64 10,.int .i64 (m:Int),.int .i64 (m:Int),.int .i64 0,.int .i64 (-1),.int .i64 0,.int .i64 0,.int .i64 0,.int .i64 0,.int .i64 0,.int .i64 1,.int .i64 18,.int .i64 0,.int .i64 (m:Int),.int .i64 0,.int .i64 0,.int .i64 0,.int .i64 0,.int .i64 0,.int .i64 0,.int .i64 0] 117)=y/\Bw t1 y/\y.ownsRow t1.heap.size 117 11 (.slice (some ⟨t1.heap.size,0,none⟩) [e1,Gv m].length 2) [e1,Gv m].length (Es [e1,Gv m]):=⟨_,rfl,Ai,by rw[<-bP];exact World.ownsRow_lit t1 (Es [⟨1,10,(m:Int),(m:Int),0,-1,0,0,0,0,0⟩,Gv m]).toArray 2 (Nat.le_refl _) (by unfold maxLen;omega) rfl⟩
 have aJ:=ay.below b2
 obtain⟨g3,c3,t3,aC,o3,cD,bp⟩:=Ju t2 w.heap.size g2 c2 zs aJ.Bo _ t1.heap.size 2 [e1,Gv m] o2 (by simp;omega) aJ.X.F.size
 obtain⟨ys,bY⟩:=Au (zs++[e1,Gv m])
 rw[bY]at aC o3
 have cn:Hid (LQ w p O n B bH cH I S bR cR L bA cA V z c bs ba U J.heap.size fb 2 [IB m im,Gv m] M gB cB VB zB qB ni Q cI VI zI qI g3 c3 ys t3):=aJ.growX cD o3 bp
 have cq:Hid (Wl ys/\ys.length<=3+4*gb d):=(by
  rw[<-bY]
  refine⟨ch.1.app ?_,by simp;omega⟩
  rw[<-bP]
  exact .ins rfl rfl rfl (.ins rfl rfl rfl .nil):Wl ys/\ys.length<=3+4*gb d)
 clear aJ o3 cD bp bP ay o2 b2
 go_upto_region 16 with(first|(at_builtin;refine FO rfl _ _ 27 rfl rfl rfl aC ?_))
 clear aC aM bY
 have dT:ys.length<=3+4*gb d:=cq.2
 obtain⟨ws,a6⟩:∃e:SV,(⟨3,0,0,0,0,0,0,2,(ys.length:Int),0,0⟩:SV)=e:=⟨_,rfl⟩
 obtain⟨t4,aF,b4,o4⟩:∃y,t3.alloc (.cells #[.int .i64 3,.int .i64 0,.int .i64 0,.int .i64 0,.int .i64 0,.int .i64 0,.int .i64 0,.int .i64 2,.int .i64 (ys.length:Int),.int .i64 0,.int .i64 0] 117)=y/\Bw t3 y/\y.ownsRow t3.heap.size 117 11 (.slice (some ⟨t3.heap.size,0,none⟩) [ws].length 1) [ws].length (Es [ws]):=⟨_,rfl,Ai,by rw[Nj,<-a6];exact World.ownsRow_lit t3 (RJ ⟨3,0,0,0,0,0,0,2,(ys.length:Int),0,0⟩).toArray 1 (Nat.le_refl _) (by unfold maxLen;omega) rfl⟩
 have bb:=cn.below b4
 obtain⟨g5,c5,t5,aD,o5,cE,bq⟩:=Ju t4 w.heap.size fb 2 [IB m im,Gv m] bb.Fr _ t3.heap.size 1 [ws] o4 AX bb.X.F.size
 obtain⟨bL,aH⟩:=Au ([IB m im,Gv m]++[ws])
 rw[aH]at aD o5
 have ds:bL.length=3:=by rw[<-aH];rfl
 have aT:=bb.growF cE o5 bq
 obtain⟨g6,c6,t6,aE,o6,cF,bu⟩:=Ju t5 w.heap.size g5 c5 bL aT.Fr _ g3 c3 ys aT.Bo AB aT.X.F.size
 obtain⟨AL,bM⟩:∃AL,bL++ys=AL:=⟨_,rfl⟩
 rw[bM]at aE o6
 have aw:Hid (LQ w p O n B bH cH I S bR cR L bA cA V z c bs ba U J.heap.size g6 c6 AL M gB cB VB zB qB ni Q cI VI zI qI g3 c3 ys t6):=aT.growF cF o6 bu
 have bc:Hid (Wl AL/\AL.length<=gb (d+1)):=(by
  rw[<-bM,<-aH]
  refine⟨?_,by show _<=6+5*gb d;have:=PO d;simp;omega⟩
  have:=Wl.node (s:=ws) (x:=ys) (y:=[]) (xs:=[]) (by rw[<-a6];show(3:Int)≠1;decide) (by rw[<-a6]) (by rw[<-a6];rfl) cq.1 .nil .nil
  have h2:=Wl.ins (s:=Gv m) rfl rfl rfl this
  have h1:=Wl.ins (s:=IB m im) rfl rfl rfl h2
  simpa using h1:Wl AL/\AL.length<=gb (d+1))
 clear bb aT o4 o5 o6 cE cF bq bu a6 b4 cn aH ds
 go_upto_region 17 with(first|(at_builtin;refine FO rfl _ _ 27 rfl rfl rfl aD ?_)|(at_builtin;refine FO rfl _ _ 27 rfl rfl rfl aE ?_))
 clear aD aE aF bM
 have dk:AL.length<=1048576:=by have:=bc.2;have h2:gb (d+1)=6+5*gb d:=rfl;omega
 have s0:=aw.X.cells
 go_wp2_with fail
 refine(Sk AL dk bc.1 bH cH I S bR cR L bA cA V z c 0 0 _ t6 (by have:=aw.X.lH;omega) aw.X.sc aw.X.G aw.X.ok (uR aw.Fr) AB AB).mono ?_
 rintro e t7⟨ax,aV,be,m7,ap,z7,c7,r7,rfl,d0,d1,cw,hb⟩
 have yb:=uZ (at':=aV) (rounds:=r7) cw
 have bn:Bw t7 (t7.alloc (.cells #[.int .i64 ax,.int .i64 aV,.slice be m7 ap,.int .i64 z7,.int .i64 c7,.int .i64 r7] 89)):=Ai
 obtain⟨t8,cQ⟩:=Au (t7.alloc (.cells #[.int .i64 ax,.int .i64 aV,.slice be m7 ap,.int .i64 z7,.int .i64 c7,.int .i64 r7] 89))
 rw[cQ]at yb bn
 have aU:Hid (LQ w p O n B bH cH I S bR cR L bA cA V z c bs ba U J.heap.size g6 c6 AL M gB cB VB zB qB ni Q cI VI zI qI g3 c3 ys t8):=(aw.below hb).below bn
 have cU:=aw.X.F.size
 have bm:U<t6.heap.size:=aw.X.R.lt
 have a1:=hb.size
 obtain⟨no,bV⟩:=Au (t7.heap.size)
 rw[bV]at yb a1
 have Y8:=hxy yb
 unfold DV
 go_upto_region 18 with fail
 try rw[bV]
 have dH:p<no:=AB
 have ZB:Hid (w.heap.size<=t6.heap.size/\U<t6.heap.size/\t6.heap.size<=no):=⟨cU,bm,a1⟩
 clear hb cw yb bn cQ bV aw s0 cU bm a1
 go_cut [136](fun c9 wx=>∃b:Bool,c9=.bool b/\LQ w p O n B bH cH I S bR cR L bA cA V z c bs ba U J.heap.size g6 c6 AL M gB cB VB zB qB ni Q cI VI zI qI g3 c3 ys wx/\YW I S L bA t6.heap.size no ax aV be m7 ap z7 c7 r7 wx)
 case first=>
  obtain⟨v0,v1,v2,v3,v4,v5,vf,vl⟩:=Y8.cells
  by_cases h0:ax=0
  ·have e1:(ax !=0)=false:=by simp[h0]
   clear h0
   go_wp2_with fail
   go_meet
   exact⟨_,rfl,aU,Y8⟩
  ·have e1:(ax !=0)=true:=by simp[h0]
   go_wp2_with fail
   refine(Af p O n B 8 _ AB aU.X.K).mono ?_
   rintro e t9⟨y,rfl,y0,y8,f,k'⟩
   have am:Hid (LQ w p O n B bH cH I S bR cR L bA cA V z c bs ba U J.heap.size g6 c6 AL M gB cB VB zB qB ni Q cI VI zI qI g3 c3 ys t9):=aU.fw f k'
   have Y9:Hid (YW I S L bA t6.heap.size no ax aV be m7 ap z7 c7 r7 t9):=⟨Ct Y8.Y f AB,fun e=>by
    obtain⟨g,cg,V2,h1,h2,h3,h4,h5⟩:=Y8.ab e
    exact⟨g,cg,V2,h1,h2,h3,f.arr h4 (by have:=aU.X.p3;have:=ZB.out;omega),h5⟩⟩
   clear f k' v0 v1 v2 v3 v4 v5 vf vl
   go_wp2_with fail
   go_meet
   exact⟨_,rfl,am,Y9⟩
 case rest=>
 obtain⟨cs,rfl,ca,cb⟩:=hcut
 generalize wc=t9 at ca cb⊢
 have am:=hxy ca
 have Y9:=hxy cb
 clear ca cb aU Y8
 cases cs with
 |true=>
  have X9:=hxy am.X
  have s0:=X9.cells
  go_wp2_with fail
  refine(Gs p O n B bH cH I S bR cR L bA cA V z c aG t9 X9.K X9.sc X9.G X9.ok X9.p1 X9.p2 X9.p3).mono ?_
  rintro e z3⟨g,cg,xs,gA,aa,V',z',c',rfl,au,ag,ae,an,hA,al,f,k'⟩
  have Z3:Hid (Ga w p O n B bH cH I S bR cR L bA cA V z c bs ba U z3):=X9.fw f k'
  have bW:=X9.F.size
  have aW:=X9.R.lt
  have dt:=X9.n3
  have aY:gA≠U:=AB
  have HR:Hid (z3.ownsRow w.heap.size 117 11 (.slice (some ⟨g,0,none⟩) xs.length cg) xs.length (Es xs)):=ES ae bW
  have ah:Hid (Wl xs/\xs.length<=gb (d+1)/\(gA=bA∨w.heap.size<=gA)/\Ak z3 gA (8*6) (vF V')/\BK I S 8 L 8 V' z' c'=true):=⟨au,by have:=PO (d+1);omega,AB,hA,al⟩
  obtain⟨r0,r1,r2⟩:=Z3.R.cells
  have rf:=Z3.R.free
  have rl:=Z3.R.lt
  have a4:(Value.slice (some ⟨g,0,none⟩) xs.length cg).ownBlock≠some U:=Ar Z3.R HR Ad
  clear f k' au ag ae an hA al s0
  go_wp2_with fail
  refine mY (.tuple #[.slice (some ⟨g,0,none⟩) xs.length cg,.agg #[.slice (some ⟨gA,0,none⟩) 8 aa,.int .i64 z',.int .i64 c']]) (by simp[results,Tryz.results86,go_sem, *]) ⟨g,cg,xs,gA,aa,V',z',c',rfl,ah.1,ah.2.1,ER HR a4 _ _ _,ah.2.2.1,EI ah.2.2.2.1 aY _ _ _,ah.2.2.2.2,GI Z3.F (by have:=BO.out;omega) _ _ _,Ez Z3.K (by have:=BO.out;omega) _ _ _⟩
 |false=>
  obtain⟨v0,v1,v2,v3,v4,v5,vf,vl⟩:=Y9.cells
  have R9:=am.X.R
  have dF:U<t9.heap.size:=R9.lt
  have a4:(Value.slice (some ⟨g6,0,none⟩) AL.length c6).ownBlock≠some U:=Ar R9 am.Fr Ad
  have cf:Hid (∀(t:World)(gA aa:Nat)(V':Nat->VV)(z' c':Int),Bw t9 t->(gA=bA∨w.heap.size<=gA)->gA≠U->Ak t9 gA (8*6) (vF V')->BK I S 8 L 8 V' z' c'=true->Xt I S L bA (gb (d+1)) w p O n B (.returned (.tuple #[.slice (some ⟨g6,0,none⟩) AL.length c6,.agg #[.slice (some ⟨gA,0,none⟩) 8 aa,.int .i64 z',.int .i64 c']])) (((t.setCell ⟨U,0,none⟩ (.slice (some ⟨gA,0,none⟩) 8 aa)).setCell ⟨U,1,none⟩ (.int .i64 z')).setCell ⟨U,2,none⟩ (.int .i64 c'))):=fun t gA aa V' z' c' hb nw ne hA ok=>⟨g6,c6,AL,gA,aa,V',z',c',rfl,bc.1,bc.2,ER (BM am.Fr hb) a4 _ _ _,nw,EI (hA.below hb hA.lt) ne _ _ _,ok,GI (am.X.below hb).F (by have:=BO.out;omega) _ _ _,Ez (am.X.below hb).K (by have:=BO.out;omega) _ _ _⟩
  by_cases h0:ax=0
  ·skip
   have e1:(ax !=0)=false:=by simp[h0]
   obtain⟨gy,dL,Uy,cS,dZ,dY,Ay,dx⟩:=Y9.ab h0
   subst h0
   simp only[Value.slice.injEq]at cS
   obtain⟨rfl,rfl,rfl⟩:=cS
   have cK:gy≠U:=by have:=am.X.n3;have:=ZB.out;omega
   have cM:gy=bA∨w.heap.size<=gy:=by have:=ZB.out;omega
   have a2:no≠U:=by have:=ZB.out;omega
   go_upto_region 22 with fail
   have j0:∀k,Tn (some U) t9 k->k.cell? ⟨no,2,none⟩=some (.slice (some ⟨gy,0,none⟩) 8 ap):=fun k h=>(World.cell?_of_block (a:=⟨no,2,none⟩) (h no vl (by intro e;exact a2 (Option.some.inj e).symm))).trans v2
   have j1:∀k,Tn (some U) t9 k->k.cell? ⟨no,3,none⟩=some (.int .i64 z7):=fun k h=>(World.cell?_of_block (a:=⟨no,3,none⟩) (h no vl (by intro e;exact a2 (Option.some.inj e).symm))).trans v3
   have j2:∀k,Tn (some U) t9 k->k.cell? ⟨no,4,none⟩=some (.int .i64 c7):=fun k h=>(World.cell?_of_block (a:=⟨no,4,none⟩) (h no vl (by intro e;exact a2 (Option.some.inj e).symm))).trans v4
   refine wp_region_held_drew (S:=fun k=>Tn (some U) t9 k) AV (Tn.of BJ.drew) (fun _=>?_)
   refine EX [0,1,2,3,4] ?_
   have l:Bw t9 t9.drew:=BJ.drew
   generalize t9.drew=t0 at l⊢
   have R0:=R9.below l
   obtain⟨r0,r1,r2⟩:=R0.cells
   have rf:=R0.free
   have rl:=R0.lt
   have ah:=cf.out t0 gy ap Uy z7 c7 l cM cK Ay dx
   have RS:=hxy ah
   have TT:Hid (Tn (some U) t9 t0):=Tn.of l
   clear ah l R0 j0 j1 j2 v0 v1 v2 v3 v4 v5 vf vl
   refine AO 5 rfl (fun KK D=>?_)
   go_simp
   refine D.out _ _ (TT.set3 _ _ _) (fun _=>?_)
   clear D KK
   refine wpAnyH_done AV ?_ _
   go_wp2_with fail
   refine mY (.tuple #[.slice (some ⟨g6,0,none⟩) AL.length c6,.agg #[.slice (some ⟨gy,0,none⟩) 8 ap,.int .i64 z7,.int .i64 c7]]) (by simp[results,Tryz.results86,go_sem, *]) RS
  ·skip
   have e1:(ax !=0)=true:=by simp[h0]
   have kb:=am.KB
   have cG:gB≠U:=by have:=kb.ge;have:=am.w2;omega
   have cJ:gB=bA∨w.heap.size<=gB:=by have:=kb.ge;have:=am.w1;omega
   have a0:M≠U:=by have:=kb.gn;have:=am.w2;omega
   go_upto_region 21 with fail
   have j0:∀k,Tn (some U) t9 k->k.cell? ⟨M,0,none⟩=some (.slice (some ⟨gB,0,none⟩) 8 cB):=fun k h=>(kb.N.tn h (by intro e;exact a0 (Option.some.inj e).symm)).cells.1
   have j1:∀k,Tn (some U) t9 k->k.cell? ⟨M,1,none⟩=some (.int .i64 zB):=fun k h=>(kb.N.tn h (by intro e;exact a0 (Option.some.inj e).symm)).cells.2.1
   have j2:∀k,Tn (some U) t9 k->k.cell? ⟨M,2,none⟩=some (.int .i64 qB):=fun k h=>(kb.N.tn h (by intro e;exact a0 (Option.some.inj e).symm)).cells.2.2
   refine wp_region_held_drew (S:=fun k=>Tn (some U) t9 k) AV (Tn.of BJ.drew) (fun _=>?_)
   refine EX [0,1,2] ?_
   have l:Bw t9 t9.drew:=BJ.drew
   generalize t9.drew=t0 at l⊢
   have R0:=R9.below l
   obtain⟨r0,r1,r2⟩:=R0.cells
   have rf:=R0.free
   have rl:=R0.lt
   have ah:=cf.out t0 gB cB VB zB qB l cJ cG kb.A kb.ok
   have RS:=hxy ah
   have TT:Hid (Tn (some U) t9 t0):=Tn.of l
   clear ah l R0 j0 j1 j2 v0 v1 v2 v3 v4 v5 vf vl
   refine AO 3 rfl (fun KK D=>?_)
   go_simp
   refine D.out _ _ (TT.set3 _ _ _) (fun _=>?_)
   clear D KK
   refine wpAnyH_done AV ?_ _
   go_wp2_with fail
   refine mY (.tuple #[.slice (some ⟨g6,0,none⟩) AL.length c6,.agg #[.slice (some ⟨gB,0,none⟩) 8 cB,.int .i64 zB,.int .i64 qB]]) (by simp[results,Tryz.results86,go_sem, *]) RS
end Go.Proofs.YtcjnmdgomocpgaaGreatDoor
