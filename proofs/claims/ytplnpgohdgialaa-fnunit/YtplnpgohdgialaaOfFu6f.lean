import Derived.Test.YtplnpgohdgialaaFu6d
set_option maxHeartbeats 32000000
set_option maxRecDepth 20000
namespace Go.Proofs.Ytplnpgohdgialaa
open Go.RowKit Go.Deep
theorem Arr.grw{u u':World}{row:Option Nat}{b n:Nat}{f:Nat->Value}(h:Arr u b n f)(hg:u.grownBy u' row)(hn:row≠some b):Arr u' b n f:=
 ⟨Nat.lt_of_lt_of_le h.lt hg.size,fun i=>(World.frozen?_of_block (a:=⟨b,i,none⟩) (hg.block b h.lt (fun e=>hn e.symm))).trans (h.free i),fun i hi=>(World.cell?_of_block (a:=⟨b,i,none⟩) (hg.block b h.lt (fun e=>hn e.symm))).trans (h.cell hi)⟩
theorem GX.grw{w:World}{p:Nat}{ao:Option Addr}{n cap:Nat}{bH cH nH:Nat}{S:Nat->HS}{bR cR:Nat}{V0:Nat->VV}{bA cA:Nat}{V:Nat->VV}{z c:Int}{bs ba br:Nat}{u u':World}(h:GX w p ao n cap bH cH nH S bR cR V0 bA cA V z c bs ba br u){g:Nat}(hg:u.grownBy u' (some g))(hge:w.heap.size<=g)(n1:g≠bs)(n2:g≠ba)(n3:g≠br)(n4:g≠bA):GX w p ao n cap bH cH nH S bR cR V0 bA cA V z c bs ba br u':=by
 have ne:∀{b:Nat},g≠b->(some g:Option Nat)≠some b:=fun hn e=>hn (Option.some.inj e)
 have p0:=h.pw;exact⟨h.F.grown hg (fun k hk=>by have e:=Option.some.inj hk;omega),h.K.grown hg (fun k hk=>by have e:=Option.some.inj hk;omega),grown_obj h.sg hg (ne n1),grown_obj h.A hg (ne n2),grown_obj h.R hg (ne n3),⟨h.sc.h.grw hg (ne (by have:=h.n1;omega)),h.sc.r.grw hg (ne (by have:=h.n2;omega))⟩,h.G.grw hg (ne n4),h.ok,h.lH,h.pw,h.o1,h.o2,h.o3,h.n1,h.n2,h.n3,h.p1,h.p2,h.p3⟩
theorem wpList_app{P:Program}{ops:Array Oper}{rest:List Oper}{o:Oper}{a:Act}{w w':World}{Q:Exit->Act->World->Prop}(hgd:o.guard=none)(s x:Operand)(t:TypeId){v u v':Value}(ho:o.op=.call {callee:=.builtin .append,args:=#[s,x],argTypes:=#[t,t]})(hs:a.eval s=v)(hx:a.eval x=u)(hr:(Builtin.append_ #[t,t] o.type #[v,u]).run P w=.ok v' w')(h:wpList P ops Q rest (a.put o.dst v') w'):wpList P ops Q (o::rest) a w:=by
 refine wpList_plain hgd fun K hK=>?_
 unfold Oper.wp execOp;simp only[ho,resolve,invoke,builtin,Sem.run_bind,Sem.run_pure,Result.andThen_ok,List.map_toArray,List.map_cons,List.map_nil,hs,hx,hr];exact hK _ _ h
structure KV(nH:Nat)(S:Nat->HS)(V0:Nat->VV)(B nb gB cB:Nat)(VB:Nat->VV)(zB qB:Int)(u:World):Prop where
 N:V3 u nb 106 (.slice (some ⟨gB,0,none⟩) 8 cB) (.int .i64 zB) (.int .i64 qB)
 A:Arr u gB (8*6) (vF VB)
 ok:absOK nH S 8 V0 8 VB zB qB=true
 ge:B<=gB
 gn:B<=nb
theorem KV.below{nH:Nat}{S:Nat->HS}{V0:Nat->VV}{B nb gB cB:Nat}{VB:Nat->VV}{zB qB:Int}{u u':World}(h:KV nH S V0 B nb gB cB VB zB qB u)(f:Below u.heap.size u u'):KV nH S V0 B nb gB cB VB zB qB u':=⟨h.N.below f,h.A.below f h.A.lt,h.ok,h.ge,h.gn⟩
theorem KV.fw{nH:Nat}{S:Nat->HS}{V0:Nat->VV}{B nb gB cB:Nat}{VB:Nat->VV}{zB qB:Int}{p:Nat}{u u':World}(h:KV nH S V0 B nb gB cB VB zB qB u)(hp:p<B)(f:Fw p u u'):KV nH S V0 B nb gB cB VB zB qB u':=⟨hq_fw h.N f (by have:=h.gn;omega),f.arr h.A (by have:=h.ge;omega),h.ok,h.ge,h.gn⟩
theorem KV.grw{nH:Nat}{S:Nat->HS}{V0:Nat->VV}{B nb gB cB:Nat}{VB:Nat->VV}{zB qB:Int}{u u':World}{g:Nat}(h:KV nH S V0 B nb gB cB VB zB qB u)(hg:u.grownBy u' (some g))(n1:g≠nb)(n2:g≠gB):KV nH S V0 B nb gB cB VB zB qB u':=⟨grown_obj h.N hg (fun e=>n1 (Option.some.inj e)),h.A.grw hg (fun e=>n2 (Option.some.inj e)),h.ok,h.ge,h.gn⟩
theorem KV.put{nH:Nat}{S:Nat->HS}{V0:Nat->VV}{B nb gB cB:Nat}{VB:Nat->VV}{zB qB:Int}{u:World}{q:Nat}(h:KV nH S V0 B nb gB cB VB zB qB u)(n1:q≠nb)(n2:q≠gB)(j:Nat)(v:Value):KV nH S V0 B nb gB cB VB zB qB (u.setCell ⟨q,j,none⟩ v):=⟨hq_other h.N (fun e=>n1 e.symm) _ _,h.A.other n2 _,h.ok,h.ge,h.gn⟩
theorem implIns_2{rr:Nat}{im:Int}(h:rr<=7)(i0:0<=im)(i1:im<=5):implIns 2 (rr:Int) 0 0 im 0=true:=by
 unfold implIns;simp only[show bitB 2 1=true by kernel_rfl,show bitB 2 2=false by kernel_rfl,show bitB 2 4=false by kernel_rfl,show bitB 2 8=true by kernel_rfl,show bitB 2 16=false by kernel_rfl,fieldB,immLo,immHi];simp[inB];omega
theorem implIns_18{rr:Nat}(h:rr<=7):implIns 18 0 (rr:Int) 0 0 0=true:=by
 unfold implIns;simp only[show bitB 18 1=false by kernel_rfl,show bitB 18 2=true by kernel_rfl,show bitB 18 4=false by kernel_rfl,show bitB 18 8=true by kernel_rfl,show bitB 18 16=false by kernel_rfl,fieldB,immLo,immHi];simp[inB];omega
theorem implIns_11{rr dd:Nat}(h:rr<=7)(hd:dd<=7):implIns 11 (dd:Int) (rr:Int) 0 7 0=true:=by
 unfold implIns;simp only[show bitB 11 1=true by kernel_rfl,show bitB 11 2=true by kernel_rfl,show bitB 11 4=false by kernel_rfl,show bitB 11 8=true by kernel_rfl,show bitB 11 16=false by kernel_rfl,fieldB,immLo,immHi];simp[inB];omega
theorem tr_ok{nH:Nat}{S:Nat->HS}{V0 V:Nat->VV}{z c op d ra rb imm h:Int}{w w':World}{e:Ending}(t:TrW nH S 8 V0 8 V z c op d ra rb imm h w e w')(ho:absOK nH S 8 V0 8 V z c=true)(hi:implIns op d ra rb imm h=true)(h3:op=2∨op=11∨op=18):∃g cg V' z' c',e=.returned (.agg #[.int .i64 0,.slice (some ⟨g,0,none⟩) 8 cg,.int .i64 z',.int .i64 c'])/\w.heap.size<=g/\Arr w' g (8*6) (vF V')/\absOK nH S 8 V0 8 V' z' c'=true/\Below w.heap.size w w':=by
 obtain⟨err,V',z',c',ha,hk,h0,hb⟩:=t;have e0:=h0 ho hi h3;subst e0;rcases ha with⟨hn,_⟩|⟨_,g,cg,h1,h2,h3⟩
 ·exact absurd rfl hn
 ·exact⟨g,cg,V',z',c',h2,h1,h3,hk rfl,hb⟩
theorem kv_old'{nH:Nat}{S:Nat->HS}{V0:Nat->VV}{B nb gB cB:Nat}{VB:Nat->VV}{zB qB:Int}{x y q:Value}{u:World}(N:V3 u nb 106 x y q)(A:Arr u gB (8*6) (vF VB))(ok:absOK nH S 8 V0 8 VB zB qB=true)(ge:B<=gB)(hB:B<=nb)(ne:gB≠nb):KV nH S V0 B nb gB cB VB zB qB (((u.setCell ⟨nb,0,none⟩ (.slice (some ⟨gB,0,none⟩) 8 cB)).setCell ⟨nb,1,none⟩ (.int .i64 zB)).setCell ⟨nb,2,none⟩ (.int .i64 qB)):=
 ⟨N.set _ _ _,arr_set3 A ne _ _ _,ok,ge,hB⟩
structure LQ(w:World)(p:Nat)(ao:Option Addr)(n cap:Nat)(bH cH nH:Nat)(S:Nat->HS)(bR cR:Nat)(V0:Nat->VV)(bA cA:Nat)(V:Nat->VV)(z c:Int)(bs ba br B fb fc:Nat)(fs:List SV)(nb gB cB:Nat)(VB:Nat->VV)(zB qB:Int)(ni gI cI:Nat)(VI:Nat->VV)(zI qI:Int)(xg xc:Nat)(xs:List SV)(u:World):Prop where
 X:GX w p ao n cap bH cH nH S bR cR V0 bA cA V z c bs ba br u
 Fr:u.ownsRow w.heap.size 33 11 (.slice (some ⟨fb,0,none⟩) fs.length fc) fs.length (cs fs)
 Bo:u.ownsRow w.heap.size 33 11 (.slice (some ⟨xg,0,none⟩) xs.length xc) xs.length (cs xs)
 KB:KV nH S V0 B nb gB cB VB zB qB u
 KI:KV nH S V0 B ni gI cI VI zI qI u
 q1:xg≠fb
 q2:xg≠gB
 q3:xg≠gI
 q4:fb≠gB
 q5:fb≠gI
 w1:w.heap.size<=B
 w2:br<B
 la:bA<w.heap.size
section
variable{w:World}{p:Nat}{ao:Option Addr}{n cap:Nat}{bH cH nH:Nat}{S:Nat->HS}{bR cR:Nat}{V0:Nat->VV}{bA cA:Nat}{V:Nat->VV}{z c:Int}{bs ba br B fb fc:Nat}{fs:List SV}{nb gB cB:Nat}{VB:Nat->VV}{zB qB:Int}{ni gI cI:Nat}{VI:Nat->VV}{zI qI:Int}{xg xc:Nat}{xs:List SV}{u u':World}
theorem LQ.fw(h:LQ w p ao n cap bH cH nH S bR cR V0 bA cA V z c bs ba br B fb fc fs nb gB cB VB zB qB ni gI cI VI zI qI xg xc xs u)(f:Fw p u u')(k:Cur u' p ao n cap):LQ w p ao n cap bH cH nH S bR cR V0 bA cA V z c bs ba br B fb fc fs nb gB cB VB zB qB ni gI cI VI zI qI xg xc xs u':=by
 have p0:=h.X.pw;have w1:=h.w1;exact⟨h.X.fw f k,row_fw h.Fr f p0,row_fw h.Bo f p0,h.KB.fw (by omega) f,h.KI.fw (by omega) f,h.q1,h.q2,h.q3,h.q4,h.q5,h.w1,h.w2,h.la⟩
theorem LQ.below(h:LQ w p ao n cap bH cH nH S bR cR V0 bA cA V z c bs ba br B fb fc fs nb gB cB VB zB qB ni gI cI VI zI qI xg xc xs u)(f:Below u.heap.size u u'):LQ w p ao n cap bH cH nH S bR cR V0 bA cA V z c bs ba br B fb fc fs nb gB cB VB zB qB ni gI cI VI zI qI xg xc xs u':=h.fw (.of_below f) (h.X.K.below f)
theorem LQ.growX(h:LQ w p ao n cap bH cH nH S bR cR V0 bA cA V z c bs ba br B fb fc fs nb gB cB VB zB qB ni gI cI VI zI qI xg xc xs u){g2 c2:Nat}{ys:List SV}(hg:u.grownBy u' (some xg))(o:u'.ownsRow w.heap.size 33 11 (.slice (some ⟨g2,0,none⟩) ys.length c2) ys.length (cs ys))(h2:g2=xg∨g2=u.heap.size):LQ w p ao n cap bH cH nH S bR cR V0 bA cA V z c bs ba br B fb fc fs nb gB cB VB zB qB ni gI cI VI zI qI g2 c2 ys u':=by
 have hge:=own_ge h.Bo (q:=xg) rfl;have ty:∀{b t:Nat}{vs:Array Value},u.heap[b]?=some (.cells vs t)->t≠33->xg≠b:=fun hx he e=>grown_ne hx h.Bo he (by rw[e];rfl)
 have m1:xg≠nb:=ty h.KB.N (by decide);have m2:xg≠ni:=ty h.KI.N (by decide);have la:=h.la;have l1:fb<u.heap.size:=(h.Fr.lt fb rfl).2;have l2:gB<u.heap.size:=h.KB.A.lt;have l3:gI<u.heap.size:=h.KI.A.lt;have q1:=h.q1;have q2:=h.q2;have q3:=h.q3;exact⟨h.X.grw hg hge (ty h.X.sg (by decide)) (ty h.X.A (by decide)) (ty h.X.R (by decide)) (by omega),row_grw h.Fr hg (fun q hq e=>by
  have e1:fb=q:=Option.some.inj hq;have e2:xg=q:=Option.some.inj e;omega),o,h.KB.grw hg m1 q2,h.KI.grw hg m2 q3,by omega,by omega,by omega,h.q4,h.q5,h.w1,h.w2,h.la⟩
theorem LQ.growF(h:LQ w p ao n cap bH cH nH S bR cR V0 bA cA V z c bs ba br B fb fc fs nb gB cB VB zB qB ni gI cI VI zI qI xg xc xs u){g2 c2:Nat}{ys:List SV}(hg:u.grownBy u' (some fb))(o:u'.ownsRow w.heap.size 33 11 (.slice (some ⟨g2,0,none⟩) ys.length c2) ys.length (cs ys))(h2:g2=fb∨g2=u.heap.size):LQ w p ao n cap bH cH nH S bR cR V0 bA cA V z c bs ba br B g2 c2 ys nb gB cB VB zB qB ni gI cI VI zI qI xg xc xs u':=by
 have hge:=own_ge h.Fr (q:=fb) rfl;have ty:∀{b t:Nat}{vs:Array Value},u.heap[b]?=some (.cells vs t)->t≠33->fb≠b:=fun hx he e=>grown_ne hx h.Fr he (by rw[e];rfl)
 have m1:fb≠nb:=ty h.KB.N (by decide);have m2:fb≠ni:=ty h.KI.N (by decide);have la:=h.la;have l1:xg<u.heap.size:=(h.Bo.lt xg rfl).2;have l2:gB<u.heap.size:=h.KB.A.lt;have l3:gI<u.heap.size:=h.KI.A.lt;have q1:=h.q1;have q4:=h.q4;have q5:=h.q5;exact⟨h.X.grw hg hge (ty h.X.sg (by decide)) (ty h.X.A (by decide)) (ty h.X.R (by decide)) (by omega),o,row_grw h.Bo hg (fun q hq e=>by
  have e1:xg=q:=Option.some.inj hq;have e2:fb=q:=Option.some.inj e;omega),h.KB.grw hg m1 q4,h.KI.grw hg m2 q5,by omega,h.q2,h.q3,by omega,by omega,h.w1,h.w2,h.la⟩
theorem LQ.putI(h:LQ w p ao n cap bH cH nH S bR cR V0 bA cA V z c bs ba br B fb fc fs nb gB cB VB zB qB ni gI cI VI zI qI xg xc xs u){g2 c2:Nat}{V2:Nat->VV}{z2 q2':Int}(hA:Arr u g2 (8*6) (vF V2))(ok:absOK nH S 8 V0 8 V2 z2 q2'=true)(ge:B<=g2)(n1:g2≠ni)(n2:g2≠fb)(n3:g2≠xg)(n4:ni≠nb)(n5:ni≠gB):LQ w p ao n cap bH cH nH S bR cR V0 bA cA V z c bs ba br B fb fc fs nb gB cB VB zB qB ni g2 c2 V2 z2 q2' xg xc xs (((u.setCell ⟨ni,0,none⟩ (.slice (some ⟨g2,0,none⟩) 8 c2)).setCell ⟨ni,1,none⟩ (.int .i64 z2)).setCell ⟨ni,2,none⟩ (.int .i64 q2')):=by
 have gn:=h.KI.gn;have w1:=h.w1;have w2:=h.w2;have la:=h.la;have f1:(Value.slice (some ⟨fb,0,none⟩) fs.length fc).ownBlock≠some ni:=grown_ne h.KI.N h.Fr (by decide);have f2:(Value.slice (some ⟨xg,0,none⟩) xs.length xc).ownBlock≠some ni:=grown_ne h.KI.N h.Bo (by decide);exact⟨((h.X.put (by omega) (by omega) _ _).put (by omega) (by omega) _ _).put (by omega) (by omega) _ _,row_set3 h.Fr f1 _ _ _,row_set3 h.Bo f2 _ _ _,((h.KB.put n4 n5 _ _).put n4 n5 _ _).put n4 n5 _ _,kv_old' h.KI.N hA ok ge gn n1,h.q1,h.q2,fun e=>n3 e.symm,h.q4,fun e=>n2 e.symm,h.w1,h.w2,h.la⟩
end
theorem row_cap{w:World}{B e s n g c:Nat}{xs:List Value}(h:w.ownsRow B e s (.slice (some ⟨g,0,none⟩) n c) n xs):n<=c:=by
 rcases h.2 with⟨h,_⟩|⟨g',cap,cur,h,_,_,h4,_⟩
 ·cases h
 ·have:c=cap:=by simpa using(Value.slice.inj h).2.2
  omega
theorem sl_row{w:World}{B g cg:Nat}{xs:List SV}(h:w.ownsRow B 33 11 (.slice (some ⟨g,0,none⟩) xs.length cg) xs.length (cs xs)):SL w (.slice (some ⟨g,0,none⟩) xs.length cg) xs:=
 ⟨_,cg,rfl,row_cap h,.inr ⟨g,0,rfl,(h.lt g rfl).2,fun i hi=>by rw[Nat.zero_add,h.cellAt i hi];exact cs_get xs sv0 i hi⟩⟩
def s1V(rr:Nat)(im:Int):SV:=⟨1,2,(rr:Int),0,0,im,0,0,0,0,0⟩
def s2V(rr:Nat):SV:=⟨1,18,0,(rr:Int),0,0,0,0,0,0,0⟩
theorem kv_new{nH:Nat}{S:Nat->HS}{V0:Nat->VV}{B gB cB:Nat}{VB:Nat->VV}{zB qB:Int}{u:World}(A:Arr u gB (8*6) (vF VB))(ok:absOK nH S 8 V0 8 VB zB qB=true)(ge:B<=gB)(hB:B<=u.heap.size):KV nH S V0 B u.heap.size gB cB VB zB qB (u.alloc (.cells #[.slice (some ⟨gB,0,none⟩) 8 cB,.int .i64 zB,.int .i64 qB] 106)):=
 ⟨V3.new _ _ _ _ _,A.below ((Below.refl _ _).alloc (Nat.le_refl _) _) A.lt,ok,ge,hB⟩
theorem l5GenLoop_any(d:Nat)(IH:GenC d)(hd:d<=3)(p:Nat)(ao:Option Addr)(n cap:Nat)(bH cH nH:Nat)(S:Nat->HS)(bR cR:Nat)(V0:Nat->VV)(bA cA:Nat)(V:Nat->VV)(z c busy:Int)(w:World)(hc:Cur w p ao n cap)(h1:SigCp w bH nH S bR 8 V0)(h2:Arr w bA (8*6) (vF V))(h3:absOK nH S 8 V0 8 V z c=true)(p1:bH≠p)(p2:bR≠p)(p3:bA≠p):
 Calls Try.prog 47 #[.pointer (some ⟨p,0,none⟩),.agg #[.slice (some ⟨bH,0,none⟩) nH cH,.slice (some ⟨bR,0,none⟩) 8 cR],.agg #[.slice (some ⟨bA,0,none⟩) 8 cA,.int .i64 z,.int .i64 c],.int .i64 ((d+1:Nat):Int),.int .i64 busy] w (GenR nH S V0 bA (gb (d+1)) w p ao n cap):=by
 have X0:Hid (GX w p ao n cap bH cH nH S bR cR V0 bA cA V z c w.heap.size (w.heap.size+1) (w.heap.size+1+1) (((w.alloc (.cells #[.slice (some ⟨bH,0,none⟩) nH cH,.slice (some ⟨bR,0,none⟩) 8 cR] 47)).alloc (.cells #[.slice (some ⟨bA,0,none⟩) 8 cA,.int .i64 z,.int .i64 c] 106)).alloc (.cells #[.slice none 0 0,.int .i64 0,.int .i64 0] 106))):=gx_new w hc h1 h2 h3 p1 p2 p3
 have LA:Hid (bA<w.heap.size):=h2.lt
 have lp:=hc.lt
 clear hc h1 h2 h3 p1 p2
 go_enter Try.func47,Try.ntmps47
 go_upto_region 1 with fail
 obtain⟨u,hu⟩:∃y,((w.alloc (.cells #[.slice (some ⟨bH,0,none⟩) nH cH,.slice (some ⟨bR,0,none⟩) 8 cR] 47)).alloc (.cells #[.slice (some ⟨bA,0,none⟩) 8 cA,.int .i64 z,.int .i64 c] 106)).alloc (.cells #[.slice none 0 0,.int .i64 0,.int .i64 0] 106)=y:=⟨_,rfl⟩
 rw[hu]at X0⊢
 obtain⟨bs,hbs⟩:∃y,w.heap.size=y:=⟨_,rfl⟩
 obtain⟨ba,hba⟩:∃y,w.heap.size+1=y:=⟨_,rfl⟩
 obtain⟨br,hbr⟩:∃y,w.heap.size+1+1=y:=⟨_,rfl⟩
 have X0:Hid (GX w p ao n cap bH cH nH S bR cR V0 bA cA V z c bs ba br u):=by rw[<-hbs,<-hba,<-hbr];exact X0
 rw[hbr,hba,hbs]
 have BO:Hid (w.heap.size=bs/\bs<ba/\ba<br):=⟨hbs,by omega,by omega⟩
 clear hu hbs hba hbr
 go_wp2_with fail
 refine(l1Below_any p ao n cap 4 _ (by omega) X0.out.K).mono ?_
 rintro e y1⟨cd,rfl,cd0,cd4,f,k'⟩
 have X1:Hid (GX w p ao n cap bH cH nH S bR cR V0 bA cA V z c bs ba br y1):=X0.out.fw f k'
 clear f k' X0
 obtain⟨rr,hrr⟩:∃rr:Nat,4+cd=(rr:Int):=⟨(4+cd).toNat,by omega⟩
 have rr4:4<=rr:=by omega
 have rr7:rr<=7:=by omega
 go_upto_region 2 with fail
 try rw[hrr]
 clear hrr
 by_cases hbu:0<=busy
 ·skip
  obtain⟨⟨s0,s1⟩,⟨a0,a1,a2⟩,al1,al2⟩:=X1.out.cells
  go_wp2_with fail
  refine(l5GenIns_any p ao n cap bH cH nH S bR cR V0 bA cA V z c busy y1 X1.out.K X1.out.sc X1.out.G X1.out.ok X1.out.p1 X1.out.p2 X1.out.p3).mono ?_
  rintro e z3⟨g,cg,xs,gA,cA',V',z',c',rfl,hwl,hlen,hrow,nwA,hA,okA,f,k'⟩
  have Z3:Hid (GX w p ao n cap bH cH nH S bR cR V0 bA cA V z c bs ba br z3):=X1.out.fw f k'
  have hs2:=X1.out.F.size
  have hbr2:=X1.out.R.lt
  have hn3:=X1.out.n3
  have hgbr:gA≠br:=by omega
  have HR:Hid (z3.ownsRow w.heap.size 33 11 (.slice (some ⟨g,0,none⟩) xs.length cg) xs.length (cs xs)):=row_down hrow hs2
  have RES:Hid (Wl xs/\xs.length<=gb (d+1)/\(gA=bA∨w.heap.size<=gA)/\Arr z3 gA (8*6) (vF V')/\absOK nH S 8 V0 8 V' z' c'=true):=⟨hwl,by have:=gb_pos (d+1);omega,by omega,hA,okA⟩
  obtain⟨r0,r1,r2⟩:=Z3.out.R.cells
  have rf:=Z3.out.R.free
  have rl:=Z3.out.R.lt
  have hrn:(Value.slice (some ⟨g,0,none⟩) xs.length cg).ownBlock≠some br:=grown_ne Z3.out.R HR.out (by decide)
  clear f k' hwl hlen hrow nwA hA okA s0 s1 a0 a1 a2 al1 al2
  go_wp2_with fail
  refine bodyPost_ret (v:=.tuple #[.slice (some ⟨g,0,none⟩) xs.length cg,.agg #[.slice (some ⟨gA,0,none⟩) 8 cA',.int .i64 z',.int .i64 c']]) (by simp[results,Try.results47,go_sem, *]) rfl ⟨g,cg,xs,gA,cA',V',z',c',rfl,RES.out.1,RES.out.2.1,row_set3 HR.out hrn _ _ _,RES.out.2.2.1,arr_set3 RES.out.2.2.2.1 hgbr _ _ _,RES.out.2.2.2.2,fw_set3 Z3.out.F (by have:=BO.out;omega) _ _ _,cur_set3 Z3.out.K (by have:=BO.out;omega) _ _ _⟩
 go_wp2_with fail
 refine(l1Below_any p ao n cap 5 _ (by omega) X1.out.K).mono ?_
 rintro e y2⟨im,rfl,im0,im5,f,k'⟩
 have X2:Hid (GX w p ao n cap bH cH nH S bR cR V0 bA cA V z c bs ba br y2):=X1.out.fw f k'
 clear f k' X1
 go_upto_region 5 with fail
 obtain⟨y3,hy3,b3,o3⟩:∃y,y2.alloc (.cells #[.int .i64 1,.int .i64 2,.int .i64 (rr:Int),.int .i64 0,.int .i64 0,.int .i64 im,.int .i64 0,.int .i64 0,.int .i64 0,.int .i64 0,.int .i64 0,.int .i64 1,.int .i64 18,.int .i64 0,.int .i64 (rr:Int),.int .i64 0,.int .i64 0,.int .i64 0,.int .i64 0,.int .i64 0,.int .i64 0,.int .i64 0] 33)=y/\Below y2.heap.size y2 y/\y.ownsRow y2.heap.size 33 11 (.slice (some ⟨y2.heap.size,0,none⟩) 2 2) 2 (cs [s1V rr im,s2V rr]):=⟨_,rfl,(Below.refl _ _).alloc (Nat.le_refl _) _,World.ownsRow_lit y2 (cs [s1V rr im,s2V rr]).toArray 2 (Nat.le_refl _) (by unfold maxLen;omega) rfl⟩
 rw[hy3]
 have X3:Hid (GX w p ao n cap bH cH nH S bR cR V0 bA cA V z c bs ba br y3):=X2.out.below b3
 have hw2:w.heap.size<=y2.heap.size:=X2.out.F.size
 have hbr2:br<y2.heap.size:=X2.out.R.lt
 obtain⟨fb,hfb⟩:∃y,y2.heap.size=y:=⟨_,rfl⟩
 rw[hfb]at hw2 hbr2 o3⊢
 have O3:Hid (y3.ownsRow w.heap.size 33 11 (.slice (some ⟨fb,0,none⟩) [s1V rr im,s2V rr].length 2) [s1V rr im,s2V rr].length (cs [s1V rr im,s2V rr])):=row_down o3 hw2
 have hf3:fb<y3.heap.size:=(o3.lt _ rfl).2
 clear hy3 b3 o3 hfb X2
 go_cut [14](fun s14 wx=>∃(nb gB cB:Nat)(VB:Nat->VV)(zB qB:Int),s14=.pointer (some ⟨nb,0,none⟩)/\Below y3.heap.size y3 wx/\KV nH S V0 y3.heap.size nb gB cB VB zB qB wx)
 case first=>
  have FI:Hid (∀w':World,Below y3.heap.size y3 w'->∀i,i<22->w'.cell? ⟨fb,i,none⟩=(cs [s1V rr im,s2V rr])[i]?):=fun w' h i hi=>(h.cell (p:=⟨fb,i,none⟩) hf3).trans (O3.out.cellAt i hi)
  have f1:∀w',Below y3.heap.size y3 w'->w'.cell? ⟨fb,1,none⟩=some (.int .i64 2):=fun w' h=>FI.out w' h 1 (by omega)
  have f2:∀w',Below y3.heap.size y3 w'->w'.cell? ⟨fb,2,none⟩=some (.int .i64 (rr:Int)):=fun w' h=>FI.out w' h 2 (by omega)
  have f3:∀w',Below y3.heap.size y3 w'->w'.cell? ⟨fb,3,none⟩=some (.int .i64 0):=fun w' h=>FI.out w' h 3 (by omega)
  have f4:∀w',Below y3.heap.size y3 w'->w'.cell? ⟨fb,4,none⟩=some (.int .i64 0):=fun w' h=>FI.out w' h 4 (by omega)
  have f5:∀w',Below y3.heap.size y3 w'->w'.cell? ⟨fb,5,none⟩=some (.int .i64 im):=fun w' h=>FI.out w' h 5 (by omega)
  have f6:∀w',Below y3.heap.size y3 w'->w'.cell? ⟨fb,6,none⟩=some (.int .i64 0):=fun w' h=>FI.out w' h 6 (by omega)
  have f12:∀w',Below y3.heap.size y3 w'->w'.cell? ⟨fb,12,none⟩=some (.int .i64 18):=fun w' h=>FI.out w' h 12 (by omega)
  have f13:∀w',Below y3.heap.size y3 w'->w'.cell? ⟨fb,13,none⟩=some (.int .i64 0):=fun w' h=>FI.out w' h 13 (by omega)
  have f14:∀w',Below y3.heap.size y3 w'->w'.cell? ⟨fb,14,none⟩=some (.int .i64 (rr:Int)):=fun w' h=>FI.out w' h 14 (by omega)
  have f15:∀w',Below y3.heap.size y3 w'->w'.cell? ⟨fb,15,none⟩=some (.int .i64 0):=fun w' h=>FI.out w' h 15 (by omega)
  have f16:∀w',Below y3.heap.size y3 w'->w'.cell? ⟨fb,16,none⟩=some (.int .i64 0):=fun w' h=>FI.out w' h 16 (by omega)
  have f17:∀w',Below y3.heap.size y3 w'->w'.cell? ⟨fb,17,none⟩=some (.int .i64 0):=fun w' h=>FI.out w' h 17 (by omega)
  have j0:∀w',Below y3.heap.size y3 w'->w'.cell? ⟨bs,0,none⟩=some (.slice (some ⟨bH,0,none⟩) nH cH):=fun w' h=>(X3.out.below h).cells.1.1
  have j1:∀w',Below y3.heap.size y3 w'->w'.cell? ⟨bs,1,none⟩=some (.slice (some ⟨bR,0,none⟩) 8 cR):=fun w' h=>(X3.out.below h).cells.1.2
  have j2:∀w',Below y3.heap.size y3 w'->w'.cell? ⟨ba,0,none⟩=some (.slice (some ⟨bA,0,none⟩) 8 cA):=fun w' h=>(X3.out.below h).cells.2.1.1
  have j3:∀w',Below y3.heap.size y3 w'->w'.cell? ⟨ba,1,none⟩=some (.int .i64 z):=fun w' h=>(X3.out.below h).cells.2.1.2.1
  have j4:∀w',Below y3.heap.size y3 w'->w'.cell? ⟨ba,2,none⟩=some (.int .i64 c):=fun w' h=>(X3.out.below h).cells.2.1.2.2
  have ff:∀(v:Value)(zz cc:Int)(w:World),(Instr.field 123 (.agg #[.int .i64 0,v,.int .i64 zz,.int .i64 cc]) 1).run Try.prog w=.ok (.agg #[v,.int .i64 zz,.int .i64 cc]) w:=fun v zz cc w=>by kernel_rfl
  refine wp_region_held_drew (S:=fun w'=>Below y3.heap.size y3 w') (by kernel_rfl) (Below.refl _ _).drew (fun _=>?_)
  refine wpAnyH_tk 0 ?k1v rfl ?k1y ?k1r
  case k1y=>(intro w hSw;(try dsimp only at hSw);go_simp;try with_reducible rfl)
  try simp only[Act.put,List.getElem_toArray,List.getElem_cons_zero,List.setIfInBounds_toArray,List.set_cons_zero,List.set_cons_succ]
  refine wpAnyH_tk 1 ?k2v rfl ?k2y ?k2r
  case k2y=>(intro w hSw;(try dsimp only at hSw);go_simp;try with_reducible rfl)
  try simp only[Act.put,List.getElem_toArray,List.getElem_cons_zero,List.getElem_cons_succ,List.setIfInBounds_toArray,List.set_cons_zero,List.set_cons_succ]
  refine wpAnyH_tk 2 ?k3v rfl ?k3y ?k3r
  case k3y=>(intro w hSw;(try dsimp only at hSw);go_simp;try with_reducible rfl)
  try simp only[Act.put,List.getElem_toArray,List.getElem_cons_zero,List.getElem_cons_succ,List.setIfInBounds_toArray,List.set_cons_zero,List.set_cons_succ]
  refine wpAnyH_tk 3 ?k4v rfl ?k4y ?k4r
  case k4y=>(intro w hSw;(try dsimp only at hSw);go_simp;try with_reducible rfl)
  try simp only[Act.put,List.getElem_toArray,List.getElem_cons_zero,List.getElem_cons_succ,List.setIfInBounds_toArray,List.set_cons_zero,List.set_cons_succ]
  refine wpAnyH_tk 4 ?k5v rfl ?k5y ?k5r
  case k5y=>(intro w hSw;(try dsimp only at hSw);go_simp;try with_reducible rfl)
  try simp only[Act.put,List.getElem_toArray,List.getElem_cons_zero,List.getElem_cons_succ,List.setIfInBounds_toArray,List.set_cons_zero,List.set_cons_succ]
  refine wpAnyH_tk 5 ?k6v rfl ?k6y ?k6r
  case k6y=>(intro w hSw;(try dsimp only at hSw);go_simp;try with_reducible rfl)
  try simp only[Act.put,List.getElem_toArray,List.getElem_cons_zero,List.getElem_cons_succ,List.setIfInBounds_toArray,List.set_cons_zero,List.set_cons_succ]
  refine wpAnyH_tk 6 ?k7v rfl ?k7y ?k7r
  case k7y=>(intro w hSw;(try dsimp only at hSw);go_simp;try with_reducible rfl)
  try simp only[Act.put,List.getElem_toArray,List.getElem_cons_zero,List.getElem_cons_succ,List.setIfInBounds_toArray,List.set_cons_zero,List.set_cons_succ]
  refine wpAnyH_tk 9 ?k8v rfl ?k8y ?k8r
  case k8y=>(intro w hSw;(try dsimp only at hSw);go_simp;try with_reducible rfl)
  try simp only[Act.put,List.getElem_toArray,List.getElem_cons_zero,List.getElem_cons_succ,List.setIfInBounds_toArray,List.set_cons_zero,List.set_cons_succ]
  refine wpAnyH_tk 10 ?k9v rfl ?k9y ?k9r
  case k9y=>(intro w hSw;(try dsimp only at hSw);go_simp;try with_reducible rfl)
  try simp only[Act.put,List.getElem_toArray,List.getElem_cons_zero,List.getElem_cons_succ,List.setIfInBounds_toArray,List.set_cons_zero,List.set_cons_succ]
  refine wpAnyH_tk 11 ?k10v rfl ?k10y ?k10r
  case k10y=>(intro w hSw;(try dsimp only at hSw);go_simp;try with_reducible rfl)
  try simp only[Act.put,List.getElem_toArray,List.getElem_cons_zero,List.getElem_cons_succ,List.setIfInBounds_toArray,List.set_cons_zero,List.set_cons_succ]
  refine wpAnyH_tk 12 ?k11v rfl ?k11y ?k11r
  case k11y=>(intro w hSw;(try dsimp only at hSw);go_simp;try with_reducible rfl)
  try simp only[Act.put,List.getElem_toArray,List.getElem_cons_zero,List.getElem_cons_succ,List.setIfInBounds_toArray,List.set_cons_zero,List.set_cons_succ]
  have hbd:Below y3.heap.size y3 y3.drew:=(Below.refl _ _).drew
  generalize y3.drew=t0 at hbd⊢
  refine wpAnyH_ready (rs:=[7,15]) (by kernel_rfl) (by simp) ?_
  refine AllReadyH.cons rfl (fun KK hK=>?_) (AllReadyH.cons rfl (fun KK hK=>?_) AllReadyH.nil)
  ·skip
   go_simp
   refine(specTr_any bH cH nH S bR cR 8 V0 bA cA 8 V z c 2 (rr:Int) 0 0 im 0 t0 (by have:=X3.out.lH;omega) (by omega) (by omega) (X3.out.below hbd).sc (X3.out.below hbd).G).mono ?_
   rintro e t1 htr
   obtain⟨g1,cg1,V1,z1,q1,rfl,ge1,A1,ok1,hb⟩:=tr_ok htr X3.out.ok (implIns_2 rr7 im0 (by omega)) (Or.inl rfl)
   have hbd':Below y3.heap.size y3 t1:=hbd.trans (hb.mono hbd.size)
   refine hK.out _ _ hbd' (fun _=>?_)
   clear hK KK htr
   try simp only[Act.put,List.getElem_toArray,List.getElem_cons_zero,List.getElem_cons_succ,List.setIfInBounds_toArray,List.set_cons_zero,List.set_cons_succ]
   refine wpAnyH_tk 8 ?k12v rfl ?k12y ?k12r
   case k12y=>(intro w hSw;(try dsimp only at hSw);go_simp;try with_reducible rfl)
   try simp only[Act.put,List.getElem_toArray,List.getElem_cons_zero,List.getElem_cons_succ,List.setIfInBounds_toArray,List.set_cons_zero,List.set_cons_succ]
   have sz1:=hbd.size
   clear hbd hb
   have hbd:=hbd'
   clear hbd'
   refine wpAnyH_ready (rs:=[13,15]) (by kernel_rfl) (by simp) ?_
   refine AllReadyH.cons rfl (fun KK hK=>?_) (AllReadyH.cons rfl (fun KK hK=>?_) AllReadyH.nil)
   ·skip
    go_simp
    refine(specTr_any bH cH nH S bR cR 8 V0 g1 cg1 8 V1 z1 q1 18 0 (rr:Int) 0 0 0 t1 (by have:=X3.out.lH;omega) (by omega) (by omega) (X3.out.below hbd).sc A1).mono ?_
    rintro e t2 htr
    obtain⟨g2,cg2,V2,z2,q2,rfl,ge2,A2,ok2,hb⟩:=tr_ok htr ok1 (implIns_18 rr7) (Or.inr (Or.inr rfl))
    have hbd':Below y3.heap.size y3 t2:=hbd.trans (hb.mono hbd.size)
    refine hK.out _ _ hbd' (fun _=>?_)
    clear hK KK htr
    try simp only[Act.put,List.getElem_toArray,List.getElem_cons_zero,List.getElem_cons_succ,List.setIfInBounds_toArray,List.set_cons_zero,List.set_cons_succ]
    refine wpAnyH_tk 14 ?k13v rfl ?k13y ?k13r
    case k13y=>(intro w hSw;(try dsimp only at hSw);go_simp;try with_reducible rfl)
    try simp only[Act.put,List.getElem_toArray,List.getElem_cons_zero,List.getElem_cons_succ,List.setIfInBounds_toArray,List.set_cons_zero,List.set_cons_succ]
    have sz2:=hbd.size
    clear hbd hb
    have hbd:=hbd'
    clear hbd'
    refine wpAnyH_ready (rs:=[15]) (by kernel_rfl) (by simp) ?_
    refine AllReadyH.cons rfl (fun KK hK=>?_) AllReadyH.nil
    go_simp
    refine hK.out _ _ (hbd.alloc hbd.size _) (fun _=>?_)
    clear hK KK
    try simp only[Act.put,List.getElem_toArray,List.getElem_cons_zero,List.getElem_cons_succ,List.setIfInBounds_toArray,List.set_cons_zero,List.set_cons_succ]
    refine wpAnyH_ready (rs:=[16]) (by kernel_rfl) (by simp) ?_
    refine AllReadyH.cons rfl (fun KK hK=>?_) AllReadyH.nil
    go_simp
    refine hK.out _ _ (hbd.alloc hbd.size _) (fun _=>?_)
    clear hK KK
    refine wpAnyH_done (by kernel_rfl) ?_ _
    have KK2:Hid (KV nH S V0 y3.heap.size t2.heap.size g2 cg2 V2 z2 q2 (t2.alloc (.cells #[.slice (some ⟨g2,0,none⟩) 8 cg2,.int .i64 z2,.int .i64 q2] 106))):=kv_new A2 ok2 (by omega) hbd.size
    have BB:Hid (Below y3.heap.size y3 (t2.alloc (.cells #[.slice (some ⟨g2,0,none⟩) 8 cg2,.int .i64 z2,.int .i64 q2] 106))):=hbd.alloc hbd.size _
    clear j0 j1 j2 j3 j4 f1 f2 f3 f4 f5 f6 f12 f13 f14 f15 f16 f17 ff
    go_wp2_with fail
    go_meet
    exact⟨_,g2,cg2,V2,z2,q2,rfl,BB.out,KK2.out⟩
   ·skip
    go_simp
    obtain⟨t4,ht4,bn⟩:∃y,t1.alloc (.cells #[.slice none 0 0,.int .i64 0,.int .i64 0] 106)=y/\Below t1.heap.size t1 y:=⟨_,rfl,(Below.refl _ _).alloc (Nat.le_refl _) _⟩
    have nz:=V3.new t1 106 (.slice none 0 0) (.int .i64 0) (.int .i64 0)
    rw[ht4]at nz⊢
    have hbd':Below y3.heap.size y3 t4:=hbd.trans (bn.mono hbd.size)
    have onp:=hbd.size
    have onl:=V3.lt nz
    obtain⟨nb,hnb⟩:∃y,t1.heap.size=y:=⟨_,rfl⟩
    rw[hnb]at nz onp onl⊢
    refine hK.out _ _ hbd' (fun _=>?_)
    clear hK KK ht4
    try simp only[Act.put,List.getElem_toArray,List.getElem_cons_zero,List.getElem_cons_succ,List.setIfInBounds_toArray,List.set_cons_zero,List.set_cons_succ]
    have A1':=A1.below bn A1.lt
    have hg1n:g1<nb:=by have:=A1.lt;omega
    clear A1
    have A1:=A1'
    clear A1'
    clear hbd bn hnb
    have hbd:=hbd'
    clear hbd'
    refine wpAnyH_ready (rs:=[13]) (by kernel_rfl) (by simp) ?_
    refine AllReadyH.cons rfl (fun KK hK=>?_) AllReadyH.nil
    go_simp
    refine(specTr_any bH cH nH S bR cR 8 V0 g1 cg1 8 V1 z1 q1 18 0 (rr:Int) 0 0 0 t4 (by have:=X3.out.lH;omega) (by omega) (by omega) (X3.out.below hbd).sc A1).mono ?_
    rintro e t5 htr
    obtain⟨g2,cg2,V2,z2,q2,rfl,ge2,A2,ok2,hb⟩:=tr_ok htr ok1 (implIns_18 rr7) (Or.inr (Or.inr rfl))
    have hbd':Below y3.heap.size y3 t5:=hbd.trans (hb.mono hbd.size)
    refine hK.out _ _ hbd' (fun _=>?_)
    clear hK KK htr
    try simp only[Act.put,List.getElem_toArray,List.getElem_cons_zero,List.getElem_cons_succ,List.setIfInBounds_toArray,List.set_cons_zero,List.set_cons_succ]
    refine wpAnyH_tk 14 ?k14v rfl ?k14y ?k14r
    case k14y=>(intro w hSw;(try dsimp only at hSw);go_simp;try with_reducible rfl)
    try simp only[Act.put,List.getElem_toArray,List.getElem_cons_zero,List.getElem_cons_succ,List.setIfInBounds_toArray,List.set_cons_zero,List.set_cons_succ]
    have sz2:=hbd.size
    have nlt2:=V3.lt nz
    have nz':=V3.below nz hb
    clear nz
    have nz:=nz'
    clear nz'
    clear hbd hb
    have hbd:=hbd'
    clear hbd'
    obtain⟨e0,e1,e2⟩:=V3.cells nz
    have ef:=V3.free nz
    have el:=V3.lt nz
    refine wpAnyH_ready (rs:=[16]) (by kernel_rfl) (by simp) ?_
    refine AllReadyH.cons rfl (fun KK hK=>?_) AllReadyH.nil
    go_simp
    have hne:g2≠nb:=by omega
    refine hK.out _ _ ?hs (fun _=>?_)
    case hs=>
     exact((hbd.setCell (p:=⟨nb,0,none⟩) onp _).setCell (p:=⟨nb,1,none⟩) onp _).setCell (p:=⟨nb,2,none⟩) onp _
    clear hK KK
    refine wpAnyH_done (by kernel_rfl) ?_ _
    have KK2:Hid (KV nH S V0 y3.heap.size nb g2 cg2 V2 z2 q2 (((t5.setCell ⟨nb,0,none⟩ (.slice (some ⟨g2,0,none⟩) 8 cg2)).setCell ⟨nb,1,none⟩ (.int .i64 z2)).setCell ⟨nb,2,none⟩ (.int .i64 q2))):=kv_old' nz A2 ok2 (by omega) onp hne
    have BB:Hid (Below y3.heap.size y3 (((t5.setCell ⟨nb,0,none⟩ (.slice (some ⟨g2,0,none⟩) 8 cg2)).setCell ⟨nb,1,none⟩ (.int .i64 z2)).setCell ⟨nb,2,none⟩ (.int .i64 q2))):=((hbd.setCell (p:=⟨nb,0,none⟩) onp _).setCell (p:=⟨nb,1,none⟩) onp _).setCell (p:=⟨nb,2,none⟩) onp _
    clear j0 j1 j2 j3 j4 f1 f2 f3 f4 f5 f6 f12 f13 f14 f15 f16 f17 ff e0 e1 e2 ef el
    go_wp2_with fail
    go_meet
    exact⟨_,g2,cg2,V2,z2,q2,rfl,BB.out,KK2.out⟩
  ·skip
   go_simp
   obtain⟨t7,ht7,bn⟩:∃y,t0.alloc (.cells #[.slice none 0 0,.int .i64 0,.int .i64 0] 106)=y/\Below t0.heap.size t0 y:=⟨_,rfl,(Below.refl _ _).alloc (Nat.le_refl _) _⟩
   have nz:=V3.new t0 106 (.slice none 0 0) (.int .i64 0) (.int .i64 0)
   rw[ht7]at nz⊢
   have hbd':Below y3.heap.size y3 t7:=hbd.trans (bn.mono hbd.size)
   have onp:=hbd.size
   have onl:=V3.lt nz
   obtain⟨nb,hnb⟩:∃y,t0.heap.size=y:=⟨_,rfl⟩
   rw[hnb]at nz onp onl⊢
   refine hK.out _ _ hbd' (fun _=>?_)
   clear hK KK ht7
   try simp only[Act.put,List.getElem_toArray,List.getElem_cons_zero,List.getElem_cons_succ,List.setIfInBounds_toArray,List.set_cons_zero,List.set_cons_succ]
   clear hbd bn hnb
   have hbd:=hbd'
   clear hbd'
   refine wpAnyH_ready (rs:=[7]) (by kernel_rfl) (by simp) ?_
   refine AllReadyH.cons rfl (fun KK hK=>?_) AllReadyH.nil
   go_simp
   refine(specTr_any bH cH nH S bR cR 8 V0 bA cA 8 V z c 2 (rr:Int) 0 0 im 0 t7 (by have:=X3.out.lH;omega) (by omega) (by omega) (X3.out.below hbd).sc (X3.out.below hbd).G).mono ?_
   rintro e t8 htr
   obtain⟨g1,cg1,V1,z1,q1,rfl,ge1,A1,ok1,hb⟩:=tr_ok htr X3.out.ok (implIns_2 rr7 im0 (by omega)) (Or.inl rfl)
   have hbd':Below y3.heap.size y3 t8:=hbd.trans (hb.mono hbd.size)
   refine hK.out _ _ hbd' (fun _=>?_)
   clear hK KK htr
   try simp only[Act.put,List.getElem_toArray,List.getElem_cons_zero,List.getElem_cons_succ,List.setIfInBounds_toArray,List.set_cons_zero,List.set_cons_succ]
   refine wpAnyH_tk 8 ?k15v rfl ?k15y ?k15r
   case k15y=>(intro w hSw;(try dsimp only at hSw);go_simp;try with_reducible rfl)
   try simp only[Act.put,List.getElem_toArray,List.getElem_cons_zero,List.getElem_cons_succ,List.setIfInBounds_toArray,List.set_cons_zero,List.set_cons_succ]
   have sz1:=hbd.size
   have nlt1:=V3.lt nz
   have nz':=V3.below nz hb
   clear nz
   have nz:=nz'
   clear nz'
   clear hbd hb
   have hbd:=hbd'
   clear hbd'
   refine wpAnyH_ready (rs:=[13]) (by kernel_rfl) (by simp) ?_
   refine AllReadyH.cons rfl (fun KK hK=>?_) AllReadyH.nil
   go_simp
   refine(specTr_any bH cH nH S bR cR 8 V0 g1 cg1 8 V1 z1 q1 18 0 (rr:Int) 0 0 0 t8 (by have:=X3.out.lH;omega) (by omega) (by omega) (X3.out.below hbd).sc A1).mono ?_
   rintro e t9 htr
   obtain⟨g2,cg2,V2,z2,q2,rfl,ge2,A2,ok2,hb⟩:=tr_ok htr ok1 (implIns_18 rr7) (Or.inr (Or.inr rfl))
   have hbd':Below y3.heap.size y3 t9:=hbd.trans (hb.mono hbd.size)
   refine hK.out _ _ hbd' (fun _=>?_)
   clear hK KK htr
   try simp only[Act.put,List.getElem_toArray,List.getElem_cons_zero,List.getElem_cons_succ,List.setIfInBounds_toArray,List.set_cons_zero,List.set_cons_succ]
   refine wpAnyH_tk 14 ?k16v rfl ?k16y ?k16r
   case k16y=>(intro w hSw;(try dsimp only at hSw);go_simp;try with_reducible rfl)
   try simp only[Act.put,List.getElem_toArray,List.getElem_cons_zero,List.getElem_cons_succ,List.setIfInBounds_toArray,List.set_cons_zero,List.set_cons_succ]
   have sz2:=hbd.size
   have nlt2:=V3.lt nz
   have nz':=V3.below nz hb
   clear nz
   have nz:=nz'
   clear nz'
   clear hbd hb
   have hbd:=hbd'
   clear hbd'
   obtain⟨e0,e1,e2⟩:=V3.cells nz
   have ef:=V3.free nz
   have el:=V3.lt nz
   refine wpAnyH_ready (rs:=[16]) (by kernel_rfl) (by simp) ?_
   refine AllReadyH.cons rfl (fun KK hK=>?_) AllReadyH.nil
   go_simp
   have hne:g2≠nb:=by omega
   refine hK.out _ _ ?hs (fun _=>?_)
   case hs=>
    exact((hbd.setCell (p:=⟨nb,0,none⟩) onp _).setCell (p:=⟨nb,1,none⟩) onp _).setCell (p:=⟨nb,2,none⟩) onp _
   clear hK KK
   refine wpAnyH_done (by kernel_rfl) ?_ _
   have KK2:Hid (KV nH S V0 y3.heap.size nb g2 cg2 V2 z2 q2 (((t9.setCell ⟨nb,0,none⟩ (.slice (some ⟨g2,0,none⟩) 8 cg2)).setCell ⟨nb,1,none⟩ (.int .i64 z2)).setCell ⟨nb,2,none⟩ (.int .i64 q2))):=kv_old' nz A2 ok2 (by omega) onp hne
   have BB:Hid (Below y3.heap.size y3 (((t9.setCell ⟨nb,0,none⟩ (.slice (some ⟨g2,0,none⟩) 8 cg2)).setCell ⟨nb,1,none⟩ (.int .i64 z2)).setCell ⟨nb,2,none⟩ (.int .i64 q2))):=((hbd.setCell (p:=⟨nb,0,none⟩) onp _).setCell (p:=⟨nb,1,none⟩) onp _).setCell (p:=⟨nb,2,none⟩) onp _
   clear j0 j1 j2 j3 j4 f1 f2 f3 f4 f5 f6 f12 f13 f14 f15 f16 f17 ff e0 e1 e2 ef el
   go_wp2_with fail
   go_meet
   exact⟨_,g2,cg2,V2,z2,q2,rfl,BB.out,KK2.out⟩
 case rest=>
 obtain⟨nb,gB,cB,VB,zB,qB,rfl,hb,kv⟩:=hcut
 have KB:Hid (KV nH S V0 y3.heap.size nb gB cB VB zB qB wc):=kv
 have X4:Hid (GX w p ao n cap bH cH nH S bR cR V0 bA cA V z c bs ba br wc):=X3.out.below hb
 have O4:Hid (wc.ownsRow w.heap.size 33 11 (.slice (some ⟨fb,0,none⟩) [s1V rr im,s2V rr].length 2) [s1V rr im,s2V rr].length (cs [s1V rr im,s2V rr])):=row_belowD O3.out hb
 have Z34:Hid (y3.heap.size<=wc.heap.size):=hb.size
 clear hb kv X3 O3
 generalize wc=y4 at KB X4 O4 Z34⊢
 obtain⟨b0,b1,b2⟩:=KB.out.N.cells
 have bl:=KB.out.N.lt
 go_wp2_with fail
 refine(l4Abs_any gB cB VB zB qB y4 KB.out.A).mono ?_
 rintro e y5⟨gI,cI,geI,rfl,hb,AI⟩
 have KI0:KV nH S V0 y3.heap.size y5.heap.size gI cI VB zB qB (y5.alloc (.cells #[.slice (some ⟨gI,0,none⟩) 8 cI,.int .i64 zB,.int .i64 qB] 106)):=kv_new AI KB.out.ok (by have:=Z34.out;omega) (by have:=Z34.out;have:=hb.size;omega)
 have bn:Below y5.heap.size y5 (y5.alloc (.cells #[.slice (some ⟨gI,0,none⟩) 8 cI,.int .i64 zB,.int .i64 qB] 106)):=(Below.refl _ _).alloc (Nat.le_refl _) _
 obtain⟨y6,hy6⟩:∃y,y5.alloc (.cells #[.slice (some ⟨gI,0,none⟩) 8 cI,.int .i64 zB,.int .i64 qB] 106)=y:=⟨_,rfl⟩
 rw[hy6]at KI0 bn
 have b46:Below y4.heap.size y4 y6:=hb.trans (bn.mono hb.size)
 have X6:Hid (GX w p ao n cap bH cH nH S bR cR V0 bA cA V z c bs ba br y6):=X4.out.below b46
 have O6:Hid (y6.ownsRow w.heap.size 33 11 (.slice (some ⟨fb,0,none⟩) [s1V rr im,s2V rr].length 2) [s1V rr im,s2V rr].length (cs [s1V rr im,s2V rr])):=row_belowD O4.out b46
 have KB6:Hid (KV nH S V0 y3.heap.size nb gB cB VB zB qB y6):=KB.out.below b46
 have gIl:=AI.lt
 have hgB:=KB.out.A.lt
 have hnb:=KB.out.N.lt
 have hf4:fb<y4.heap.size:=(O4.out.lt _ rfl).2
 have hb4:=hb.size
 go_upto_region 7 with fail
 obtain⟨ni,hni⟩:∃y,y5.heap.size=y:=⟨_,rfl⟩
 rw[hni]at KI0 gIl⊢
 have KI:Hid (KV nH S V0 y3.heap.size ni gI cI VB zB qB y6):=KI0
 have NE:Hid (gI≠ni/\gI≠gB/\gI≠nb/\gI≠fb/\ni≠gB/\ni≠nb/\ni≠fb/\y3.heap.size<=gI):=⟨by omega,by omega,by omega,by omega,by omega,by omega,by omega,by have:=Z34.out;omega⟩
 clear hy6 bn b46 hb AI KI0 KB X4 O4 b0 b1 b2 bl hni gIl hgB hnb hf4 hb4
 have X6g:Hid (gI≠br/\gI≠bA/\w.heap.size<=y3.heap.size/\br<y3.heap.size/\fb<y3.heap.size):=⟨by have:=NE.out;omega,by have:=NE.out;have:=LA.out;omega,by omega,by omega,hf3⟩
 go_cut [15](fun s15 wx=>s15=.pointer (some ⟨ni,0,none⟩)/\GX w p ao n cap bH cH nH S bR cR V0 bA cA V z c bs ba br wx/\wx.ownsRow w.heap.size 33 11 (.slice (some ⟨fb,0,none⟩) [s1V rr im,s2V rr].length 2) [s1V rr im,s2V rr].length (cs [s1V rr im,s2V rr])/\KV nH S V0 y3.heap.size nb gB cB VB zB qB wx/\∃VI,KV nH S V0 y3.heap.size ni gI cI VI zB qB wx)
 case first=>
  have j0:∀w',Tn (some gI) y6 w'->w'.cell? ⟨ni,0,none⟩=some (.slice (some ⟨gI,0,none⟩) 8 cI):=fun w' h=>(KI.out.N.tn h (by intro e;exact NE.out.1 (Option.some.inj e))).cells.1
  have hr8:(rr:Int)<8:=by omega
  refine wp_region_held_drew (S:=fun w'=>Tn (some gI) y6 w') (by kernel_rfl) (Tn.of (Below.refl _ _).drew) (fun _=>?_)
  refine wpAnyH_tk 0 ?k17v rfl ?k17y ?k17r
  case k17y=>(intro w hSw;(try dsimp only at hSw);go_simp;try with_reducible rfl)
  try simp only[Act.put,List.getElem_toArray,List.getElem_cons_zero,List.setIfInBounds_toArray,List.set_cons_zero,List.set_cons_succ]
  refine wpAnyH_tk 1 ?k18v rfl ?k18y ?k18r
  case k18y=>(intro w hSw;(try dsimp only at hSw);go_simp;try with_reducible rfl)
  try simp only[Act.put,List.getElem_toArray,List.getElem_cons_zero,List.getElem_cons_succ,List.setIfInBounds_toArray,List.set_cons_zero,List.set_cons_succ]
  refine wpAnyH_tk 2 ?k19v rfl ?k19y ?k19r
  case k19y=>(intro w hSw;(try dsimp only at hSw);go_simp;try with_reducible rfl)
  try simp only[Act.put,List.getElem_toArray,List.getElem_cons_zero,List.getElem_cons_succ,List.setIfInBounds_toArray,List.set_cons_zero,List.set_cons_succ]
  have hbd:Below y6.heap.size y6 y6.drew:=(Below.refl _ _).drew
  generalize y6.drew=t0 at hbd⊢
  refine wpAnyH_ready (rs:=[3]) (by kernel_rfl) (by simp) ?_
  refine AllReadyH.cons rfl (fun KK hK=>?_) AllReadyH.nil
  go_simp
  refine(l4Num_any false (-1) _).mono ?_
  rintro e t1⟨rfl,hb⟩
  have hB1:Below y6.heap.size y6 t1:=hbd.trans (hb.mono hbd.size)
  refine hK.out _ _ (Tn.of hB1) (fun _=>?_)
  clear hK KK hb hbd
  unfold VV.v
  try simp only[Act.put,List.getElem_toArray,List.getElem_cons_zero,List.getElem_cons_succ,List.setIfInBounds_toArray,List.set_cons_zero,List.set_cons_succ]
  refine wpAnyH_tk 4 ?k20v rfl ?k20y ?k20r
  case k20y=>(intro w hSw;(try dsimp only at hSw);go_simp;try with_reducible rfl)
  try simp only[Act.put,List.getElem_toArray,List.getElem_cons_zero,List.getElem_cons_succ,List.setIfInBounds_toArray,List.set_cons_zero,List.set_cons_succ]
  have K1:=KI.out.below hB1
  have AR:=regs_set K1.A (show rr<8 by omega) (numV false (-1))
  obtain⟨q0,q1,q2,q3,q4,q5⟩:=v_at K1.A (show rr<8 by omega)
  have qf:=K1.A.free
  have ql:=K1.A.lt
  obtain⟨t2,ht2⟩:∃y,put6 t1 gI (rr*6) (numV false (-1))=y:=⟨_,rfl⟩
  have E:Hid (GX w p ao n cap bH cH nH S bR cR V0 bA cA V z c bs ba br t2/\t2.ownsRow w.heap.size 33 11 (.slice (some ⟨fb,0,none⟩) [s1V rr im,s2V rr].length 2) [s1V rr im,s2V rr].length (cs [s1V rr im,s2V rr])/\KV nH S V0 y3.heap.size nb gB cB VB zB qB t2/\KV nH S V0 y3.heap.size ni gI cI (updV VB rr (numV false (-1))) zB qB t2/\Tn (some gI) y6 t2):=(by
   have n1:=NE.out
   have n2:=X6g.out
   have r1:=row_belowD O6.out hB1
   have hfn:(Value.slice (some ⟨fb,0,none⟩) [s1V rr im,s2V rr].length 2).ownBlock≠some gI:=by intro e;have e1:fb=gI:=Option.some.inj e;omega
   have rw6:∀{v:World}(j:Nat)(x:Value),v.ownsRow w.heap.size 33 11 (.slice (some ⟨fb,0,none⟩) [s1V rr im,s2V rr].length 2) [s1V rr im,s2V rr].length (cs [s1V rr im,s2V rr])->(v.setCell ⟨gI,j,none⟩ x).ownsRow w.heap.size 33 11 (.slice (some ⟨fb,0,none⟩) [s1V rr im,s2V rr].length 2) [s1V rr im,s2V rr].length (cs [s1V rr im,s2V rr]):=fun j x h=>row_put h hfn j x
   have gx6:∀{v:World}(j:Nat)(x:Value),GX w p ao n cap bH cH nH S bR cR V0 bA cA V z c bs ba br v->GX w p ao n cap bH cH nH S bR cR V0 bA cA V z c bs ba br (v.setCell ⟨gI,j,none⟩ x):=fun j x h=>h.put (by omega) (by omega) j x
   have kb6:∀{v:World}(j:Nat)(x:Value),KV nH S V0 y3.heap.size nb gB cB VB zB qB v->KV nH S V0 y3.heap.size nb gB cB VB zB qB (v.setCell ⟨gI,j,none⟩ x):=fun j x h=>h.put (by omega) (by omega) j x
   have v36:∀{v:World}(j:Nat)(x:Value),V3 v ni 106 (.slice (some ⟨gI,0,none⟩) 8 cI) (.int .i64 zB) (.int .i64 qB)->V3 (v.setCell ⟨gI,j,none⟩ x) ni 106 (.slice (some ⟨gI,0,none⟩) 8 cI) (.int .i64 zB) (.int .i64 qB):=fun j x h=>h.put (by omega) j x
   have tn6:∀{v:World}(j:Nat)(x:Value),Tn (some gI) y6 v->Tn (some gI) y6 (v.setCell ⟨gI,j,none⟩ x):=fun j x h q hq hn=>(Below.heap_setCell _ ⟨gI,j,none⟩ x q (fun e=>hn (by rw[e]))).trans (h q hq hn)
   subst ht2
   unfold put6
   refine⟨gx6 _ _ (gx6 _ _ (gx6 _ _ (gx6 _ _ (gx6 _ _ (gx6 _ _ (X6.out.below hB1)))))),rw6 _ _ (rw6 _ _ (rw6 _ _ (rw6 _ _ (rw6 _ _ (rw6 _ _ r1))))),kb6 _ _ (kb6 _ _ (kb6 _ _ (kb6 _ _ (kb6 _ _ (kb6 _ _ (KB6.out.below hB1)))))),⟨v36 _ _ (v36 _ _ (v36 _ _ (v36 _ _ (v36 _ _ (v36 _ _ K1.N))))),?_,abs_upd K1.ok (gv_num _ _ _) (abs_iff.1 K1.ok).2.2.2.1 (abs_iff.1 K1.ok).2.2.2.2,K1.ge,K1.gn⟩,tn6 _ _ (tn6 _ _ (tn6 _ _ (tn6 _ _ (tn6 _ _ (tn6 _ _ (Tn.of hB1))))))⟩
   unfold put6 at AR
   exact AR:GX w p ao n cap bH cH nH S bR cR V0 bA cA V z c bs ba br t2/\t2.ownsRow w.heap.size 33 11 (.slice (some ⟨fb,0,none⟩) [s1V rr im,s2V rr].length 2) [s1V rr im,s2V rr].length (cs [s1V rr im,s2V rr])/\KV nH S V0 y3.heap.size nb gB cB VB zB qB t2/\KV nH S V0 y3.heap.size ni gI cI (updV VB rr (numV false (-1))) zB qB t2/\Tn (some gI) y6 t2)
  unfold put6 at ht2
  clear AR K1 hB1
  refine wpAnyH_ready (rs:=[5]) (by kernel_rfl) (by simp) ?_
  refine AllReadyH.cons rfl (fun KK hK=>?_) AllReadyH.nil
  go_simp
  try rw[ht2]
  refine hK.out _ _ E.out.2.2.2.2 (fun _=>?_)
  clear hK KK ht2 j0 q0 q1 q2 q3 q4 q5 qf ql
  refine wpAnyH_done (by kernel_rfl) ?_ _
  go_wp2_with fail
  go_meet
  exact⟨rfl,E.out.1,E.out.2.1,E.out.2.2.1,_,E.out.2.2.2.1⟩
 case rest=>
 obtain⟨rfl,x7,o7,kb7,VI,ki7⟩:=hcut
 have NIN:Hid (ni≠nb/\ni≠gB):=⟨NE.out.2.2.2.2.2.1,NE.out.2.2.2.2.1⟩
 generalize wc=y7 at x7 o7 kb7 ki7⊢
 have L7:Hid (∀u xb,y7.heap.size<=xb->Below y7.heap.size y7 u->u.ownsRow y7.heap.size 33 11 (.slice (some ⟨xb,0,none⟩) 0 0) 0 (cs [])->LQ w p ao n cap bH cH nH S bR cR V0 bA cA V z c bs ba br y3.heap.size fb 2 [s1V rr im,s2V rr] nb gB cB VB zB qB ni gI cI VI zB qB xb 0 [] u):=fun u xb hxb hb o=>by
  have n1:=NE.out
  have n2:=X6g.out
  have l1:fb<y7.heap.size:=(o7.lt fb rfl).2
  have l2:=kb7.A.lt
  have l3:=ki7.A.lt
  have l4:=x7.F.size
  exact⟨x7.below hb,row_belowD o7 hb,row_down o l4,kb7.below hb,ki7.below hb,by omega,by omega,by omega,by have:=kb7.ge;omega,by omega,by omega,by omega,LA.out⟩
 have W7:Hid (w.heap.size<=y7.heap.size):=x7.F.size
 clear x7 o7 kb7 ki7 X6 O6 KB6 KI
 obtain⟨dd,hdd⟩:∃dd:Nat,((rr:Int)-3)%4+4=(dd:Int):=⟨(((rr:Int)-3)%4+4).toNat,by omega⟩
 have dd7:dd<=7:=by omega
 go_upto_region 10 with fail
 obtain⟨y8,hy8,b8,lq8,m8⟩:∃y,(y7.alloc (.cells #[] 33)).alloc (.cells #[.int .i64 11,.int .i64 (dd:Int),.int .i64 (rr:Int),.int .i64 0,.int .i64 7,.int .i64 0] 31)=y/\Below y7.heap.size y7 y/\LQ w p ao n cap bH cH nH S bR cR V0 bA cA V z c bs ba br y3.heap.size fb 2 [s1V rr im,s2V rr] nb gB cB VB zB qB ni gI cI VI zB qB y7.heap.size 0 [] y/\Ib y (y7.heap.size+1) ⟨11,(dd:Int),(rr:Int),0,7,0⟩:=by
  have e1:(y7.alloc (.cells #[] 33)).heap.size=y7.heap.size+1:=by simp
  have o1:(y7.alloc (.cells #[] 33)).ownsRow y7.heap.size 33 11 (.slice (some ⟨y7.heap.size,0,none⟩) 0 0) 0 []:=World.ownsRow_lit y7 #[] 0 (Nat.le_refl _) (by unfold maxLen;omega) rfl
  have b1:Below y7.heap.size y7 ((y7.alloc (.cells #[] 33)).alloc (.cells #[.int .i64 11,.int .i64 (dd:Int),.int .i64 (rr:Int),.int .i64 0,.int .i64 7,.int .i64 0] 31)):=((Below.refl _ _).alloc (Nat.le_refl _) _).alloc (by simp) _
  refine⟨_,rfl,b1,L7.out _ _ (Nat.le_refl _) b1 (row_belowD o1 ((Below.refl _ _).alloc (Nat.le_refl _) _)),?_⟩
  rw[<-e1]
  exact hq_new _ _
 try rw[hy8]
 obtain⟨xb,hxb⟩:∃y,y7.heap.size=y:=⟨_,rfl⟩
 obtain⟨nm,hnm⟩:∃y,y7.heap.size+1=y:=⟨_,rfl⟩
 rw[hnm]at m8
 rw[hxb]at lq8
 try rw[hnm]
 try rw[hxb]
 have Q8:Hid (LQ w p ao n cap bH cH nH S bR cR V0 bA cA V z c bs ba br y3.heap.size fb 2 [s1V rr im,s2V rr] nb gB cB VB zB qB ni gI cI VI zB qB xb 0 [] y8):=lq8
 have M8:Hid (Ib y8 nm ⟨11,(dd:Int),(rr:Int),0,7,0⟩):=m8
 have hpm:nm≠p:=by have:=W7.out;omega
 clear hy8 b8 lq8 m8 hxb hnm hdd L7
 go_cut [79](fun s79 wx=>∃b:Bool,s79=.bool b/\LQ w p ao n cap bH cH nH S bR cR V0 bA cA V z c bs ba br y3.heap.size fb 2 [s1V rr im,s2V rr] nb gB cB VB zB qB ni gI cI VI zB qB xb 0 [] wx/\Ib wx nm ⟨11,(dd:Int),(rr:Int),0,7,0⟩)
 case first=>
  go_wp2_with fail
  refine(l1Once_any p ao n cap 2 _ (by omega) Q8.out.X.K).mono ?_
  rintro e y9⟨b9,rfl,f,k'⟩
  have Q9:Hid (LQ w p ao n cap bH cH nH S bR cR V0 bA cA V z c bs ba br y3.heap.size fb 2 [s1V rr im,s2V rr] nb gB cB VB zB qB ni gI cI VI zB qB xb 0 [] y9):=Q8.out.fw f k'
  have M9:Hid (Ib y9 nm ⟨11,(dd:Int),(rr:Int),0,7,0⟩):=M8.out.fw f hpm
  clear f k' Q8 M8
  obtain⟨m0,m1,m2,m3,m4,m5,mf,ml⟩:=M9.out.cells
  cases b9 with
  |false=>
   go_wp2_with fail
   go_meet
   exact⟨_,rfl,Q9.out,M9.out⟩
  |true=>
   go_wp2_with fail
   go_meet
   exact⟨_,rfl,Q9.out,M9.out⟩
 case rest=>
 obtain⟨b79,rfl,q9,m9⟩:=hcut
 generalize wc=y9 at q9 m9⊢
 have Q9:Hid (LQ w p ao n cap bH cH nH S bR cR V0 bA cA V z c bs ba br y3.heap.size fb 2 [s1V rr im,s2V rr] nb gB cB VB zB qB ni gI cI VI zB qB xb 0 [] y9):=q9
 have M9:Hid (Ib y9 nm ⟨11,(dd:Int),(rr:Int),0,7,0⟩):=m9
 clear q9 m9 Q8 M8
 go_upto_if 79 with fail
 go_cut [16](fun s16 wx=>∃(xg xc:Nat)(xs:List SV)(gI cI:Nat)(VI:Nat->VV)(zI qI:Int),s16=.slice (some ⟨xg,0,none⟩) xs.length xc/\Wl xs/\xs.length<=1/\LQ w p ao n cap bH cH nH S bR cR V0 bA cA V z c bs ba br y3.heap.size fb 2 [s1V rr im,s2V rr] nb gB cB VB zB qB ni gI cI VI zI qI xg xc xs wx)
 case first=>
  cases b79 with
  |false=>
   go_wp2_with fail
   go_meet
   exact⟨xb,0,[],gI,cI,VI,zB,qB,rfl,.nil,by simp,Q9.out⟩
  |true=>
   obtain⟨m0,m1,m2,m3,m4,m5,mf,ml⟩:=M9.out.cells
   obtain⟨ms,hms⟩:∃ms:SV,insS ⟨11,(dd:Int),(rr:Int),0,7,0⟩=ms:=⟨_,rfl⟩
   obtain⟨t1,ht1,b1,o1⟩:∃y,y9.alloc (.cells #[.int .i64 1,.int .i64 11,.int .i64 (dd:Int),.int .i64 (rr:Int),.int .i64 0,.int .i64 7,.int .i64 0,.int .i64 0,.int .i64 0,.int .i64 0,.int .i64 0] 33)=y/\Below y9.heap.size y9 y/\y.ownsRow y9.heap.size 33 11 (.slice (some ⟨y9.heap.size,0,none⟩) [ms].length 1) [ms].length (cs [ms]):=⟨_,rfl,(Below.refl _ _).alloc (Nat.le_refl _) _,by rw[cs_one,<-hms];exact World.ownsRow_lit y9 (stL (insS ⟨11,(dd:Int),(rr:Int),0,7,0⟩)).toArray 1 (Nat.le_refl _) (by unfold maxLen;omega) rfl⟩
   have Q10:=Q9.out.below b1
   obtain⟨g2,c2,t2,hrun,o2,hg2,hg2'⟩:=app_st t1 w.heap.size xb 0 [] Q10.Bo _ y9.heap.size 1 [ms] o1 (by simp) (by have:=Q10.X.F.size;omega)
   have Q11:Hid (LQ w p ao n cap bH cH nH S bR cR V0 bA cA V z c bs ba br y3.heap.size fb 2 [s1V rr im,s2V rr] nb gB cB VB zB qB ni gI cI VI zB qB g2 c2 ([]++[ms]) t2):=Q10.growX hg2 o2 hg2'
   have M11:Hid (Ib t2 nm ⟨11,(dd:Int),(rr:Int),0,7,0⟩):=grown_obj (M9.out.below b1) hg2 (grown_ne (M9.out.below b1) Q10.Bo (by decide))
   have HMS:Hid (Wl ([]++[ms])):=(by rw[<-hms];exact wl_ins _:Wl ([]++[ms]))
   clear Q10 o2 hg2 hms Q9 M9
   go_upto_region 12 with(first|(at_builtin;refine wpList_app rfl _ _ 28 rfl rfl rfl hrun ?_))
   clear hrun ht1 b1 o1 m0 m1 m2 m3 m4 m5 mf ml
   obtain⟨⟨s0,s1⟩,_,al1,al2⟩:=Q11.out.X.cells
   obtain⟨i0,i1,i2⟩:=Q11.out.KI.N.cells
   have il:=Q11.out.KI.N.lt
   obtain⟨m0,m1,m2,m3,m4,m5,mf,ml⟩:=M11.out.cells
   have ff:∀(v:Value)(zz cc:Int)(w:World),(Instr.field 123 (.agg #[.int .i64 0,v,.int .i64 zz,.int .i64 cc]) 1).run Try.prog w=.ok (.agg #[v,.int .i64 zz,.int .i64 cc]) w:=fun v zz cc w=>by kernel_rfl
   go_wp2_with fail
   refine(specTr_any bH cH nH S bR cR 8 V0 gI cI 8 VI zB qB 11 (dd:Int) (rr:Int) 0 7 0 t2 (by have:=Q11.out.X.lH;omega) (by omega) (by omega) Q11.out.X.sc Q11.out.KI.A).mono ?_
   rintro e t3 htr
   obtain⟨g5,cg5,V5,z5,q5,rfl,ge5,A5,ok5,hb⟩:=tr_ok htr Q11.out.KI.ok (implIns_11 rr7 dd7) (Or.inr (Or.inl rfl))
   have Q12:=Q11.out.below hb
   have l1:fb<t2.heap.size:=(Q11.out.Fr.lt fb rfl).2
   have l2:g2<t2.heap.size:=(Q11.out.Bo.lt g2 rfl).2
   have l3:=Q11.out.KI.N.lt
   have l4:=Q11.out.KI.A.lt
   have l5:=Q11.out.KI.ge
   have Q13:Hid (LQ w p ao n cap bH cH nH S bR cR V0 bA cA V z c bs ba br y3.heap.size fb 2 [s1V rr im,s2V rr] nb gB cB VB zB qB ni g5 cg5 V5 z5 q5 g2 c2 ([]++[ms]) (((t3.setCell ⟨ni,0,none⟩ (.slice (some ⟨g5,0,none⟩) 8 cg5)).setCell ⟨ni,1,none⟩ (.int .i64 z5)).setCell ⟨ni,2,none⟩ (.int .i64 q5))):=Q12.putI A5 ok5 (by omega) (by omega) (by omega) (by omega) NIN.out.1 NIN.out.2
   obtain⟨n0,n1,n2⟩:=Q12.KI.N.cells
   have nf:=Q12.KI.N.free
   have nl:=Q12.KI.N.lt
   clear htr hb Q12 A5 ok5 s0 s1 al1 al2 i0 i1 i2 il m0 m1 m2 m3 m4 m5 mf ml Q11 M11 l1 l2 l3 l4 l5
   go_wp2_with fail
   go_meet
   exact⟨g2,c2,[]++[ms],g5,cg5,V5,z5,q5,rfl,HMS.out,by simp,Q13.out⟩
 case rest=>
 obtain⟨xg,xc,xs,gI,cI,VI,zI,qI,rfl,wlx,lenx,q10⟩:=hcut
 generalize wc=y10 at q10⊢
 have Q10:Hid (LQ w p ao n cap bH cH nH S bR cR V0 bA cA V z c bs ba br y3.heap.size fb 2 [s1V rr im,s2V rr] nb gB cB VB zB qB ni gI cI VI zI qI xg xc xs y10):=q10
 have WLX:Hid (Wl xs/\xs.length<=1):=⟨wlx,lenx⟩
 clear q10 wlx lenx Q9 M9
 go_upto_region 13 with fail
 go_cut [18](fun s18 wx=>∃(g cg:Nat)(ms:List SV)(np gA cA':Nat)(V':Nat->VV)(z' c':Int),s18=.slice (some ⟨g,0,none⟩) ms.length cg/\Wl ms/\ms.length<=4*gb d/\DR nH S V0 gI y10 p ao n cap g cg ms np gA cA' V' z' c' wx)
 case first=>
  have SS:∀w',Fw p y10 w'/\Cur w' p ao n cap->LQ w p ao n cap bH cH nH S bR cR V0 bA cA V z c bs ba br y3.heap.size fb 2 [s1V rr im,s2V rr] nb gB cB VB zB qB ni gI cI VI zI qI xg xc xs w':=fun w' h=>Q10.out.fw h.1 h.2
  have j0:∀w',Fw p y10 w'/\Cur w' p ao n cap->w'.cell? ⟨bs,0,none⟩=some (.slice (some ⟨bH,0,none⟩) nH cH):=fun w' h=>(SS w' h).X.cells.1.1
  have j1:∀w',Fw p y10 w'/\Cur w' p ao n cap->w'.cell? ⟨bs,1,none⟩=some (.slice (some ⟨bR,0,none⟩) 8 cR):=fun w' h=>(SS w' h).X.cells.1.2
  have j2:∀w',Fw p y10 w'/\Cur w' p ao n cap->w'.cell? ⟨ni,0,none⟩=some (.slice (some ⟨gI,0,none⟩) 8 cI):=fun w' h=>(SS w' h).KI.N.cells.1
  have j3:∀w',Fw p y10 w'/\Cur w' p ao n cap->w'.cell? ⟨ni,1,none⟩=some (.int .i64 zI):=fun w' h=>(SS w' h).KI.N.cells.2.1
  have j4:∀w',Fw p y10 w'/\Cur w' p ao n cap->w'.cell? ⟨ni,2,none⟩=some (.int .i64 qI):=fun w' h=>(SS w' h).KI.N.cells.2.2
  have hwd:IntKind.i64.wrap (d:Int)=(d:Int):=by rw[IntKind.wrap_i64]<;>omega
  have HSS:Hid (∀w',Fw p y10 w'/\Cur w' p ao n cap->LQ w p ao n cap bH cH nH S bR cR V0 bA cA V z c bs ba br y3.heap.size fb 2 [s1V rr im,s2V rr] nb gB cB VB zB qB ni gI cI VI zI qI xg xc xs w'):=SS
  have hpu:p<y10.heap.size:=by have:=Q10.out.X.F.size;omega
  have hAu:gI<y10.heap.size:=Q10.out.KI.A.lt
  have hgIp:gI≠p:=by have:=Q10.out.KI.ge;have:=Q10.out.w1;omega
  clear SS
  refine wp_region_held_drew (S:=fun w'=>Fw p y10 w'/\Cur w' p ao n cap) (by kernel_rfl) ⟨.of_below (Below.refl _ _).drew,Q10.out.X.K.below (Below.refl _ _).drew⟩ (fun hH=>?_)
  refine wpAnyH_tk 0 ?k21v rfl ?k21y ?k21r
  case k21y=>(intro w hSw;(try dsimp only at hSw);go_simp;try with_reducible rfl)
  try simp only[Act.put,List.getElem_toArray,List.getElem_cons_zero,List.setIfInBounds_toArray,List.set_cons_zero,List.set_cons_succ]
  refine wpAnyH_tk 1 ?k22v rfl ?k22y ?k22r
  case k22y=>(intro w hSw;(try dsimp only at hSw);go_simp;try with_reducible rfl)
  try simp only[Act.put,List.getElem_toArray,List.getElem_cons_zero,List.getElem_cons_succ,List.setIfInBounds_toArray,List.set_cons_zero,List.set_cons_succ]
  refine wpAnyH_tk 2 ?k23v rfl ?k23y ?k23r
  case k23y=>(intro w hSw;(try dsimp only at hSw);go_simp;try with_reducible rfl)
  try simp only[Act.put,List.getElem_toArray,List.getElem_cons_zero,List.getElem_cons_succ,List.setIfInBounds_toArray,List.set_cons_zero,List.set_cons_succ]
  refine wpAnyH_tk 3 ?k24v rfl ?k24y ?k24r
  case k24y=>(intro w hSw;(try dsimp only at hSw);go_simp;try with_reducible rfl)
  try simp only[Act.put,List.getElem_toArray,List.getElem_cons_zero,List.getElem_cons_succ,List.setIfInBounds_toArray,List.set_cons_zero,List.set_cons_succ]
  refine wpAnyH_tk 6 ?k25v rfl ?k25y ?k25r
  case k25y=>(intro w hSw;(try dsimp only at hSw);go_simp;try with_reducible rfl)
  try simp only[Act.put,List.getElem_toArray,List.getElem_cons_zero,List.getElem_cons_succ,List.setIfInBounds_toArray,List.set_cons_zero,List.set_cons_succ]
  refine wpAnyH_tk 7 ?k26v rfl ?k26y ?k26r
  case k26y=>(intro w hSw;(try dsimp only at hSw);go_simp;try with_reducible rfl)
  try simp only[Act.put,List.getElem_toArray,List.getElem_cons_zero,List.getElem_cons_succ,List.setIfInBounds_toArray,List.set_cons_zero,List.set_cons_succ]
  refine wpAnyH_tk 8 ?k27v rfl ?k27y ?k27r
  case k27y=>(intro w hSw;(try dsimp only at hSw);go_simp;try with_reducible rfl)
  try simp only[Act.put,List.getElem_toArray,List.getElem_cons_zero,List.getElem_cons_succ,List.setIfInBounds_toArray,List.set_cons_zero,List.set_cons_succ]
  generalize y10.drew=t0 at hH⊢
  have q0:=hH
  clear hH
  refine wpAnyH_ready (rs:=[4,13]) (by kernel_rfl) (by simp) ?_
  refine AllReadyH.cons rfl (fun KK hK=>?_) (AllReadyH.cons rfl (fun KK hK=>?_) AllReadyH.nil)
  ·skip
   go_simp
   refine(l1Below_any p ao n cap 4 _ (by omega) q0.2).mono ?_
   rintro e t1⟨md,rfl,md0,md1,f,k'⟩
   have q0':Fw p y10 t1/\Cur t1 p ao n cap:=⟨q0.1.trans f,k'⟩
   refine hK.out _ _ q0' (fun _=>?_)
   clear hK KK q0 f k'
   have q0:=q0'
   clear q0'
   obtain⟨mn,hmn⟩:∃mn:Nat,1+md=(mn:Int):=⟨(1+md).toNat,by omega⟩
   have hmn4:mn<=4:=by omega
   have hwm:IntKind.i64.wrap (mn:Int)=(mn:Int):=by rw[IntKind.wrap_i64]<;>omega
   try simp only[Act.put,List.getElem_toArray,List.getElem_cons_zero,List.getElem_cons_succ,List.setIfInBounds_toArray,List.set_cons_zero,List.set_cons_succ]
   refine wpAnyH_tk 5 ?k28v rfl ?k28y ?k28r
   case k28y=>(intro w hSw;(try dsimp only at hSw);go_simp;try with_reducible rfl)
   try simp only[Act.put,List.getElem_toArray,List.getElem_cons_zero,List.getElem_cons_succ,List.setIfInBounds_toArray,List.set_cons_zero,List.set_cons_succ]
   try rw[hmn]
   clear hmn hwm
   refine wpAnyH_ready (rs:=[9,13]) (by kernel_rfl) (by simp) ?_
   refine AllReadyH.cons rfl (fun KK hK=>?_) (AllReadyH.cons rfl (fun KK hK=>?_) AllReadyH.nil)
   ·skip
    go_simp
    have gx:=HSS.out _ q0
    refine(IH p ao n cap bH cH nH S bR cR V0 gI cI VI zI qI mn _ _ (by omega) q0.2 gx.X.sc gx.KI.A gx.KI.ok gx.X.p1 gx.X.p2 hgIp).mono ?_
    rintro e t2⟨g,cg,ms,gA,cA',V',z',c',rfl,hwl,hlen,hrow,nwA,hA,okA,f,k'⟩
    have q0':Fw p y10 t2/\Cur t2 p ao n cap:=⟨q0.1.trans f,k'⟩
    refine hK.out _ _ q0' (fun _=>?_)
    clear hK KK
    try simp only[Act.put,List.getElem_toArray,List.getElem_cons_zero,List.getElem_cons_succ,List.setIfInBounds_toArray,List.set_cons_zero,List.set_cons_succ]
    refine wpAnyH_tk 10 ?k29v rfl ?k29y ?k29r
    case k29y=>(intro w hSw;(try dsimp only at hSw);go_simp;try with_reducible rfl)
    try simp only[Act.put,List.getElem_toArray,List.getElem_cons_zero,List.getElem_cons_succ,List.setIfInBounds_toArray,List.set_cons_zero,List.set_cons_succ]
    refine wpAnyH_tk 11 ?k30v rfl ?k30y ?k30r
    case k30y=>(intro w hSw;(try dsimp only at hSw);go_simp;try with_reducible rfl)
    try simp only[Act.put,List.getElem_toArray,List.getElem_cons_zero,List.getElem_cons_succ,List.setIfInBounds_toArray,List.set_cons_zero,List.set_cons_succ]
    refine wpAnyH_tk 12 ?k31v rfl ?k31y ?k31r
    case k31y=>(intro w hSw;(try dsimp only at hSw);go_simp;try with_reducible rfl)
    try simp only[Act.put,List.getElem_toArray,List.getElem_cons_zero,List.getElem_cons_succ,List.setIfInBounds_toArray,List.set_cons_zero,List.set_cons_succ]
    have hlen':ms.length<=4*gb d:=Nat.le_trans hlen (Nat.mul_le_mul_right _ hmn4)
    have DD:Hid (DR nH S V0 gI y10 p ao n cap g cg ms t2.heap.size gA cA' V' z' c' (t2.alloc (.cells #[.slice (some ⟨gA,0,none⟩) 8 cA',.int .i64 z',.int .i64 c'] 106))):=dr_new q0.1 hrow nwA hA okA f k'
    clear gx hlen hrow nwA hA okA f k' q0 j0 j1 j2 j3 j4
    refine wpAnyH_ready (rs:=[13]) (by kernel_rfl) (by simp) ?_
    refine AllReadyH.cons rfl (fun KK hK=>?_) AllReadyH.nil
    go_simp
    refine hK.out _ _ ⟨q0'.1.trans (.of_below ((Below.refl _ _).alloc (Nat.le_refl _) _)),q0'.2.below ((Below.refl _ _).alloc (Nat.le_refl _) _)⟩ (fun _=>?_)
    clear hK KK
    try simp only[Act.put,List.getElem_toArray,List.getElem_cons_zero,List.getElem_cons_succ,List.setIfInBounds_toArray,List.set_cons_zero,List.set_cons_succ]
    refine wpAnyH_tk 14 ?k32v rfl ?k32y ?k32r
    case k32y=>(intro w hSw;(try dsimp only at hSw);go_simp;try with_reducible rfl)
    try simp only[Act.put,List.getElem_toArray,List.getElem_cons_zero,List.getElem_cons_succ,List.setIfInBounds_toArray,List.set_cons_zero,List.set_cons_succ]
    refine wpAnyH_ready (rs:=[15]) (by kernel_rfl) (by simp) ?_
    refine AllReadyH.cons rfl (fun KK hK=>?_) AllReadyH.nil
    go_simp
    refine hK.out _ _ ⟨DD.out.F,DD.out.K⟩ (fun _=>?_)
    clear hK KK q0'
    refine wpAnyH_done (by kernel_rfl) ?_ _
    go_wp2_with fail
    go_meet
    exact⟨g,cg,ms,_,gA,cA',V',z',c',rfl,hwl,hlen',DD.out⟩
   ·skip
    go_simp
    obtain⟨t4,ht4,bn⟩:∃y,t1.alloc (.cells #[.slice none 0 0,.int .i64 0,.int .i64 0] 106)=y/\Below t1.heap.size t1 y:=⟨_,rfl,(Below.refl _ _).alloc (Nat.le_refl _) _⟩
    have nz:=V3.new t1 106 (.slice none 0 0) (.int .i64 0) (.int .i64 0)
    rw[ht4]at nz⊢
    have q0':Fw p y10 t4/\Cur t4 p ao n cap:=⟨q0.1.trans (.of_below bn),q0.2.below bn⟩
    have onp:=q0.1.size
    obtain⟨np,hnp⟩:∃y,t1.heap.size=y:=⟨_,rfl⟩
    rw[hnp]at nz onp⊢
    refine hK.out _ _ q0' (fun _=>?_)
    clear hK KK q0 ht4 bn hnp
    have q0:=q0'
    clear q0'
    try simp only[Act.put,List.getElem_toArray,List.getElem_cons_zero,List.getElem_cons_succ,List.setIfInBounds_toArray,List.set_cons_zero,List.set_cons_succ]
    refine wpAnyH_ready (rs:=[9]) (by kernel_rfl) (by simp) ?_
    refine AllReadyH.cons rfl (fun KK hK=>?_) AllReadyH.nil
    go_simp
    have gx:=HSS.out _ q0
    refine(IH p ao n cap bH cH nH S bR cR V0 gI cI VI zI qI mn _ _ (by omega) q0.2 gx.X.sc gx.KI.A gx.KI.ok gx.X.p1 gx.X.p2 hgIp).mono ?_
    rintro e t5⟨g,cg,ms,gA,cA',V',z',c',rfl,hwl,hlen,hrow,nwA,hA,okA,f,k'⟩
    have q0':Fw p y10 t5/\Cur t5 p ao n cap:=⟨q0.1.trans f,k'⟩
    refine hK.out _ _ q0' (fun _=>?_)
    clear hK KK
    try simp only[Act.put,List.getElem_toArray,List.getElem_cons_zero,List.getElem_cons_succ,List.setIfInBounds_toArray,List.set_cons_zero,List.set_cons_succ]
    refine wpAnyH_tk 10 ?k33v rfl ?k33y ?k33r
    case k33y=>(intro w hSw;(try dsimp only at hSw);go_simp;try with_reducible rfl)
    try simp only[Act.put,List.getElem_toArray,List.getElem_cons_zero,List.getElem_cons_succ,List.setIfInBounds_toArray,List.set_cons_zero,List.set_cons_succ]
    refine wpAnyH_tk 11 ?k34v rfl ?k34y ?k34r
    case k34y=>(intro w hSw;(try dsimp only at hSw);go_simp;try with_reducible rfl)
    try simp only[Act.put,List.getElem_toArray,List.getElem_cons_zero,List.getElem_cons_succ,List.setIfInBounds_toArray,List.set_cons_zero,List.set_cons_succ]
    refine wpAnyH_tk 12 ?k35v rfl ?k35y ?k35r
    case k35y=>(intro w hSw;(try dsimp only at hSw);go_simp;try with_reducible rfl)
    try simp only[Act.put,List.getElem_toArray,List.getElem_cons_zero,List.getElem_cons_succ,List.setIfInBounds_toArray,List.set_cons_zero,List.set_cons_succ]
    refine wpAnyH_tk 14 ?k36v rfl ?k36y ?k36r
    case k36y=>(intro w hSw;(try dsimp only at hSw);go_simp;try with_reducible rfl)
    try simp only[Act.put,List.getElem_toArray,List.getElem_cons_zero,List.getElem_cons_succ,List.setIfInBounds_toArray,List.set_cons_zero,List.set_cons_succ]
    have hlen':ms.length<=4*gb d:=Nat.le_trans hlen (Nat.mul_le_mul_right _ hmn4)
    have DD:Hid (DR nH S V0 gI y10 p ao n cap g cg ms np gA cA' V' z' c' (((t5.setCell ⟨np,0,none⟩ (.slice (some ⟨gA,0,none⟩) 8 cA')).setCell ⟨np,1,none⟩ (.int .i64 z')).setCell ⟨np,2,none⟩ (.int .i64 c'))):=dr_old q0.1 hpu hAu nz onp hrow nwA hA okA f k'
    have nv:=hq_fw nz f (by omega)
    obtain⟨e0,e1,e2⟩:=V3.cells nv
    have ef:=V3.free nv
    have el:=V3.lt nv
    clear nv nz gx hlen hrow nwA hA okA f k' q0 j0 j1 j2 j3 j4
    refine wpAnyH_ready (rs:=[15]) (by kernel_rfl) (by simp) ?_
    refine AllReadyH.cons rfl (fun KK hK=>?_) AllReadyH.nil
    go_simp
    refine hK.out _ _ ⟨DD.out.F,DD.out.K⟩ (fun _=>?_)
    clear hK KK q0'
    refine wpAnyH_done (by kernel_rfl) ?_ _
    go_wp2_with fail
    go_meet
    exact⟨g,cg,ms,_,gA,cA',V',z',c',rfl,hwl,hlen',DD.out⟩
  ·skip
   go_simp
   obtain⟨t7,ht7,bn⟩:∃y,t0.alloc (.cells #[.slice none 0 0,.int .i64 0,.int .i64 0] 106)=y/\Below t0.heap.size t0 y:=⟨_,rfl,(Below.refl _ _).alloc (Nat.le_refl _) _⟩
   have nz:=V3.new t0 106 (.slice none 0 0) (.int .i64 0) (.int .i64 0)
   rw[ht7]at nz⊢
   have q0':Fw p y10 t7/\Cur t7 p ao n cap:=⟨q0.1.trans (.of_below bn),q0.2.below bn⟩
   have onp:=q0.1.size
   obtain⟨np,hnp⟩:∃y,t0.heap.size=y:=⟨_,rfl⟩
   rw[hnp]at nz onp⊢
   refine hK.out _ _ q0' (fun _=>?_)
   clear hK KK q0 ht7 bn hnp
   have q0:=q0'
   clear q0'
   try simp only[Act.put,List.getElem_toArray,List.getElem_cons_zero,List.getElem_cons_succ,List.setIfInBounds_toArray,List.set_cons_zero,List.set_cons_succ]
   refine wpAnyH_ready (rs:=[4]) (by kernel_rfl) (by simp) ?_
   refine AllReadyH.cons rfl (fun KK hK=>?_) AllReadyH.nil
   go_simp
   refine(l1Below_any p ao n cap 4 _ (by omega) q0.2).mono ?_
   rintro e t8⟨md,rfl,md0,md1,f,k'⟩
   have q0':Fw p y10 t8/\Cur t8 p ao n cap:=⟨q0.1.trans f,k'⟩
   have nz':V3 t8 np 106 (.slice none 0 0) (.int .i64 0) (.int .i64 0):=hq_fw nz f (by omega)
   refine hK.out _ _ q0' (fun _=>?_)
   clear hK KK q0 f k' nz
   have q0:=q0'
   clear q0'
   obtain⟨mn,hmn⟩:∃mn:Nat,1+md=(mn:Int):=⟨(1+md).toNat,by omega⟩
   have hmn4:mn<=4:=by omega
   have hwm:IntKind.i64.wrap (mn:Int)=(mn:Int):=by rw[IntKind.wrap_i64]<;>omega
   try simp only[Act.put,List.getElem_toArray,List.getElem_cons_zero,List.getElem_cons_succ,List.setIfInBounds_toArray,List.set_cons_zero,List.set_cons_succ]
   refine wpAnyH_tk 5 ?k37v rfl ?k37y ?k37r
   case k37y=>(intro w hSw;(try dsimp only at hSw);go_simp;try with_reducible rfl)
   try simp only[Act.put,List.getElem_toArray,List.getElem_cons_zero,List.getElem_cons_succ,List.setIfInBounds_toArray,List.set_cons_zero,List.set_cons_succ]
   try rw[hmn]
   clear hmn hwm
   have nz:=nz'
   clear nz'
   refine wpAnyH_ready (rs:=[9]) (by kernel_rfl) (by simp) ?_
   refine AllReadyH.cons rfl (fun KK hK=>?_) AllReadyH.nil
   go_simp
   have gx:=HSS.out _ q0
   refine(IH p ao n cap bH cH nH S bR cR V0 gI cI VI zI qI mn _ _ (by omega) q0.2 gx.X.sc gx.KI.A gx.KI.ok gx.X.p1 gx.X.p2 hgIp).mono ?_
   rintro e t9⟨g,cg,ms,gA,cA',V',z',c',rfl,hwl,hlen,hrow,nwA,hA,okA,f,k'⟩
   have q0':Fw p y10 t9/\Cur t9 p ao n cap:=⟨q0.1.trans f,k'⟩
   refine hK.out _ _ q0' (fun _=>?_)
   clear hK KK
   try simp only[Act.put,List.getElem_toArray,List.getElem_cons_zero,List.getElem_cons_succ,List.setIfInBounds_toArray,List.set_cons_zero,List.set_cons_succ]
   refine wpAnyH_tk 10 ?k38v rfl ?k38y ?k38r
   case k38y=>(intro w hSw;(try dsimp only at hSw);go_simp;try with_reducible rfl)
   try simp only[Act.put,List.getElem_toArray,List.getElem_cons_zero,List.getElem_cons_succ,List.setIfInBounds_toArray,List.set_cons_zero,List.set_cons_succ]
   refine wpAnyH_tk 11 ?k39v rfl ?k39y ?k39r
   case k39y=>(intro w hSw;(try dsimp only at hSw);go_simp;try with_reducible rfl)
   try simp only[Act.put,List.getElem_toArray,List.getElem_cons_zero,List.getElem_cons_succ,List.setIfInBounds_toArray,List.set_cons_zero,List.set_cons_succ]
   refine wpAnyH_tk 12 ?k40v rfl ?k40y ?k40r
   case k40y=>(intro w hSw;(try dsimp only at hSw);go_simp;try with_reducible rfl)
   try simp only[Act.put,List.getElem_toArray,List.getElem_cons_zero,List.getElem_cons_succ,List.setIfInBounds_toArray,List.set_cons_zero,List.set_cons_succ]
   refine wpAnyH_tk 14 ?k41v rfl ?k41y ?k41r
   case k41y=>(intro w hSw;(try dsimp only at hSw);go_simp;try with_reducible rfl)
   try simp only[Act.put,List.getElem_toArray,List.getElem_cons_zero,List.getElem_cons_succ,List.setIfInBounds_toArray,List.set_cons_zero,List.set_cons_succ]
   have hlen':ms.length<=4*gb d:=Nat.le_trans hlen (Nat.mul_le_mul_right _ hmn4)
   have DD:Hid (DR nH S V0 gI y10 p ao n cap g cg ms np gA cA' V' z' c' (((t9.setCell ⟨np,0,none⟩ (.slice (some ⟨gA,0,none⟩) 8 cA')).setCell ⟨np,1,none⟩ (.int .i64 z')).setCell ⟨np,2,none⟩ (.int .i64 c'))):=dr_old q0.1 hpu hAu nz onp hrow nwA hA okA f k'
   have nv:=hq_fw nz f (by omega)
   obtain⟨e0,e1,e2⟩:=V3.cells nv
   have ef:=V3.free nv
   have el:=V3.lt nv
   clear nv nz gx hlen hrow nwA hA okA f k' q0 j0 j1 j2 j3 j4
   refine wpAnyH_ready (rs:=[15]) (by kernel_rfl) (by simp) ?_
   refine AllReadyH.cons rfl (fun KK hK=>?_) AllReadyH.nil
   go_simp
   refine hK.out _ _ ⟨DD.out.F,DD.out.K⟩ (fun _=>?_)
   clear hK KK q0'
   refine wpAnyH_done (by kernel_rfl) ?_ _
   go_wp2_with fail
   go_meet
   exact⟨g,cg,ms,_,gA,cA',V',z',c',rfl,hwl,hlen',DD.out⟩
 case rest=>
 obtain⟨mg,mc,ms,np,gA,cA',V',z',c',rfl,wlm,lenm,dr⟩:=hcut
 generalize wc=y11 at dr⊢
 have Q11:Hid (LQ w p ao n cap bH cH nH S bR cR V0 bA cA V z c bs ba br y3.heap.size fb 2 [s1V rr im,s2V rr] nb gB cB VB zB qB ni gI cI VI zI qI xg xc xs y11):=Q10.out.fw dr.F dr.K
 have RM:Hid (y11.ownsRow y10.heap.size 33 11 (.slice (some ⟨mg,0,none⟩) ms.length mc) ms.length (cs ms)):=dr.row
 have WLM:Hid (Wl ms/\ms.length<=4*gb d):=⟨wlm,lenm⟩
 have HX10:Hid (xg<y10.heap.size/\fb<y10.heap.size):=⟨(Q10.out.Bo.lt xg rfl).2,(Q10.out.Fr.lt fb rfl).2⟩
 clear wlm lenm dr Q10
 have hgb:gb d<=1000:=gb_le hd
 have hlx:xs.length<=1:=WLX.out.2
 have hlm:ms.length<=4*gb d:=WLM.out.2
 obtain⟨g2,c2,t1,hrun1,o1,hg1,hg1'⟩:=app_st y11 w.heap.size xg xc xs Q11.out.Bo _ mg mc ms RM.out (by omega) Q11.out.X.F.size
 obtain⟨zs,hzs⟩:∃zs,xs++ms=zs:=⟨_,rfl⟩
 rw[hzs]at hrun1 o1
 have HZS:Hid (Wl zs/\zs.length<=1+4*gb d):=(by rw[<-hzs];exact⟨WLX.out.1.app WLM.out.1,by simp;omega⟩:Wl zs/\zs.length<=1+4*gb d)
 have Q12:Hid (LQ w p ao n cap bH cH nH S bR cR V0 bA cA V z c bs ba br y3.heap.size fb 2 [s1V rr im,s2V rr] nb gB cB VB zB qB ni gI cI VI zI qI g2 c2 zs t1):=Q11.out.growX hg1 o1 hg1'
 clear o1 hg1 hg1' Q11 RM hzs
 have hlz:zs.length<=1+4*gb d:=HZS.out.2
 go_upto_region 15 with(first|(at_builtin;refine wpList_app rfl _ _ 28 rfl rfl rfl hrun1 ?_))
 clear hrun1
 obtain⟨e1,he1⟩:∃e:SV,(⟨1,10,(rr:Int),(rr:Int),0,-1,0,0,0,0,0⟩:SV)=e:=⟨_,rfl⟩
 obtain⟨t2,ht2,b2,o2⟩:∃y,t1.alloc (.cells #[.int .i64 1,.int .i64 10,.int .i64 (rr:Int),.int .i64 (rr:Int),.int .i64 0,.int .i64 (-1),.int .i64 0,.int .i64 0,.int .i64 0,.int .i64 0,.int .i64 0,.int .i64 1,.int .i64 18,.int .i64 0,.int .i64 (rr:Int),.int .i64 0,.int .i64 0,.int .i64 0,.int .i64 0,.int .i64 0,.int .i64 0,.int .i64 0] 33)=y/\Below t1.heap.size t1 y/\y.ownsRow t1.heap.size 33 11 (.slice (some ⟨t1.heap.size,0,none⟩) [e1,s2V rr].length 2) [e1,s2V rr].length (cs [e1,s2V rr]):=⟨_,rfl,(Below.refl _ _).alloc (Nat.le_refl _) _,by rw[<-he1];exact World.ownsRow_lit t1 (cs [⟨1,10,(rr:Int),(rr:Int),0,-1,0,0,0,0,0⟩,s2V rr]).toArray 2 (Nat.le_refl _) (by unfold maxLen;omega) rfl⟩
 have Q13:=Q12.out.below b2
 obtain⟨g3,c3,t3,hrun2,o3,hg3,hg3'⟩:=app_st t2 w.heap.size g2 c2 zs Q13.Bo _ t1.heap.size 2 [e1,s2V rr] o2 (by simp;omega) Q13.X.F.size
 obtain⟨ys,hys⟩:∃ys,zs++[e1,s2V rr]=ys:=⟨_,rfl⟩
 rw[hys]at hrun2 o3
 have Q14:Hid (LQ w p ao n cap bH cH nH S bR cR V0 bA cA V z c bs ba br y3.heap.size fb 2 [s1V rr im,s2V rr] nb gB cB VB zB qB ni gI cI VI zI qI g3 c3 ys t3):=Q13.growX hg3 o3 hg3'
 have WLY:Hid (Wl ys/\ys.length<=3+4*gb d):=(by
  rw[<-hys]
  refine⟨HZS.out.1.app ?_,by simp;omega⟩
  rw[<-he1]
  exact .ins rfl rfl rfl (.ins rfl rfl rfl .nil):Wl ys/\ys.length<=3+4*gb d)
 clear Q13 o3 hg3 hg3' he1 Q12 o2 b2
 go_upto_region 16 with(first|(at_builtin;refine wpList_app rfl _ _ 28 rfl rfl rfl hrun2 ?_))
 clear hrun2 ht2 hys
 have hly:ys.length<=3+4*gb d:=WLY.out.2
 obtain⟨ws,hws⟩:∃e:SV,(⟨3,0,0,0,0,0,0,2,(ys.length:Int),0,0⟩:SV)=e:=⟨_,rfl⟩
 obtain⟨t4,ht4,b4,o4⟩:∃y,t3.alloc (.cells #[.int .i64 3,.int .i64 0,.int .i64 0,.int .i64 0,.int .i64 0,.int .i64 0,.int .i64 0,.int .i64 2,.int .i64 (ys.length:Int),.int .i64 0,.int .i64 0] 33)=y/\Below t3.heap.size t3 y/\y.ownsRow t3.heap.size 33 11 (.slice (some ⟨t3.heap.size,0,none⟩) [ws].length 1) [ws].length (cs [ws]):=⟨_,rfl,(Below.refl _ _).alloc (Nat.le_refl _) _,by rw[cs_one,<-hws];exact World.ownsRow_lit t3 (stL ⟨3,0,0,0,0,0,0,2,(ys.length:Int),0,0⟩).toArray 1 (Nat.le_refl _) (by unfold maxLen;omega) rfl⟩
 have Q15:=Q14.out.below b4
 obtain⟨g5,c5,t5,hrun3,o5,hg5,hg5'⟩:=app_st t4 w.heap.size fb 2 [s1V rr im,s2V rr] Q15.Fr _ t3.heap.size 1 [ws] o4 (by simp) Q15.X.F.size
 obtain⟨fs3,hfs3⟩:∃f,[s1V rr im,s2V rr]++[ws]=f:=⟨_,rfl⟩
 rw[hfs3]at hrun3 o5
 have hlf:fs3.length=3:=by rw[<-hfs3];rfl
 have Q16:=Q15.growF hg5 o5 hg5'
 obtain⟨g6,c6,t6,hrun4,o6,hg6,hg6'⟩:=app_st t5 w.heap.size g5 c5 fs3 Q16.Fr _ g3 c3 ys Q16.Bo (by omega) Q16.X.F.size
 obtain⟨AL,hAL⟩:∃AL,fs3++ys=AL:=⟨_,rfl⟩
 rw[hAL]at hrun4 o6
 have Q17:Hid (LQ w p ao n cap bH cH nH S bR cR V0 bA cA V z c bs ba br y3.heap.size g6 c6 AL nb gB cB VB zB qB ni gI cI VI zI qI g3 c3 ys t6):=Q16.growF hg6 o6 hg6'
 have WLA:Hid (Wl AL/\AL.length<=gb (d+1)):=(by
  rw[<-hAL,<-hfs3]
  refine⟨?_,by show _<=6+5*gb d;have:=gb_pos d;simp;omega⟩
  have:=Wl.node (s:=ws) (x:=ys) (y:=[]) (xs:=[]) (by rw[<-hws];show(3:Int)≠1;decide) (by rw[<-hws]) (by rw[<-hws];rfl) WLY.out.1 .nil .nil
  have h2:=Wl.ins (s:=s2V rr) rfl rfl rfl this
  have h1:=Wl.ins (s:=s1V rr im) rfl rfl rfl h2
  simpa using h1:Wl AL/\AL.length<=gb (d+1))
 clear Q15 Q16 o4 o5 o6 hg5 hg6 hg5' hg6' hws b4 Q14 hfs3 hlf
 go_upto_region 17 with(first|(at_builtin;refine wpList_app rfl _ _ 28 rfl rfl rfl hrun3 ?_)|(at_builtin;refine wpList_app rfl _ _ 28 rfl rfl rfl hrun4 ?_))
 clear hrun3 hrun4 ht4 hAL
 have hAl:AL.length<=1048576:=by have:=WLA.out.2;have h2:gb (d+1)=6+5*gb d:=rfl;omega
 obtain⟨⟨s0,s1⟩,⟨a0,a1,a2⟩,al1,al2⟩:=Q17.out.X.cells
 go_wp2_with fail
 refine(l5Block_any AL hAl WLA.out.1 bH cH nH S bR cR V0 bA cA V z c 0 0 _ t6 (by have:=Q17.out.X.lH;omega) Q17.out.X.sc Q17.out.X.G Q17.out.X.ok (sl_row Q17.out.Fr) (by omega) (by omega)).mono ?_
 rintro e t7⟨err,at2,ao7,m7,cap7,z7,c7,r7,rfl,q70,q71,hab,hb⟩
 have yb:=yb_new (at':=at2) (rounds:=r7) hab
 have bn:Below t7.heap.size t7 (t7.alloc (.cells #[.int .i64 err,.int .i64 at2,.slice ao7 m7 cap7,.int .i64 z7,.int .i64 c7,.int .i64 r7] 130)):=(Below.refl _ _).alloc (Nat.le_refl _) _
 obtain⟨t8,ht8⟩:∃y,t7.alloc (.cells #[.int .i64 err,.int .i64 at2,.slice ao7 m7 cap7,.int .i64 z7,.int .i64 c7,.int .i64 r7] 130)=y:=⟨_,rfl⟩
 rw[ht8]at yb bn
 have Q18:Hid (LQ w p ao n cap bH cH nH S bR cR V0 bA cA V z c bs ba br y3.heap.size g6 c6 AL nb gB cB VB zB qB ni gI cI VI zI qI g3 c3 ys t8):=(Q17.out.below hb).below bn
 have hw6:=Q17.out.X.F.size
 have hbr6:br<t6.heap.size:=Q17.out.X.R.lt
 have hno6:=hb.size
 obtain⟨no,hno⟩:∃y,t7.heap.size=y:=⟨_,rfl⟩
 rw[hno]at yb hno6
 have Y8:Hid (YB nH S V0 bA t6.heap.size no err at2 ao7 m7 cap7 z7 c7 r7 t8):=yb
 unfold outV
 go_upto_region 18 with fail
 try rw[hno]
 have hpno:p<no:=by omega
 have ZB:Hid (w.heap.size<=t6.heap.size/\br<t6.heap.size/\t6.heap.size<=no):=⟨hw6,hbr6,hno6⟩
 clear hb hab yb bn ht8 hno Q17 s0 s1 a0 a1 a2 al1 al2 hw6 hbr6 hno6
 go_cut [136](fun s136 wx=>∃b:Bool,s136=.bool b/\LQ w p ao n cap bH cH nH S bR cR V0 bA cA V z c bs ba br y3.heap.size g6 c6 AL nb gB cB VB zB qB ni gI cI VI zI qI g3 c3 ys wx/\YB nH S V0 bA t6.heap.size no err at2 ao7 m7 cap7 z7 c7 r7 wx)
 case first=>
  obtain⟨v0,v1,v2,v3,v4,v5,vf,vl⟩:=Y8.out.cells
  by_cases h0:err=0
  ·have e1:(err !=0)=false:=by simp[h0]
   clear h0
   go_wp2_with fail
   go_meet
   exact⟨_,rfl,Q18.out,Y8.out⟩
  ·have e1:(err !=0)=true:=by simp[h0]
   go_wp2_with fail
   refine(l1Below_any p ao n cap 8 _ (by omega) Q18.out.X.K).mono ?_
   rintro e t9⟨y,rfl,y0,y8,f,k'⟩
   have Q19:Hid (LQ w p ao n cap bH cH nH S bR cR V0 bA cA V z c bs ba br y3.heap.size g6 c6 AL nb gB cB VB zB qB ni gI cI VI zI qI g3 c3 ys t9):=Q18.out.fw f k'
   have Y9:Hid (YB nH S V0 bA t6.heap.size no err at2 ao7 m7 cap7 z7 c7 r7 t9):=⟨hq_fw Y8.out.Y f (by omega),fun e=>by
    obtain⟨g,cg,V2,h1,h2,h3,h4,h5⟩:=Y8.out.ab e
    exact⟨g,cg,V2,h1,h2,h3,f.arr h4 (by have:=Q18.out.X.p3;have:=ZB.out;omega),h5⟩⟩
   clear f k' v0 v1 v2 v3 v4 v5 vf vl
   go_wp2_with fail
   go_meet
   exact⟨_,rfl,Q19.out,Y9.out⟩
 case rest=>
 obtain⟨b136,rfl,q19,y9'⟩:=hcut
 generalize wc=t9 at q19 y9'⊢
 have Q19:Hid (LQ w p ao n cap bH cH nH S bR cR V0 bA cA V z c bs ba br y3.heap.size g6 c6 AL nb gB cB VB zB qB ni gI cI VI zI qI g3 c3 ys t9):=q19
 have Y9:Hid (YB nH S V0 bA t6.heap.size no err at2 ao7 m7 cap7 z7 c7 r7 t9):=y9'
 clear q19 y9' Q18 Y8
 cases b136 with
 |true=>
  have X9:Hid (GX w p ao n cap bH cH nH S bR cR V0 bA cA V z c bs ba br t9):=Q19.out.X
  obtain⟨⟨s0,s1⟩,⟨a0,a1,a2⟩,al1,al2⟩:=X9.out.cells
  go_wp2_with fail
  refine(l5GenIns_any p ao n cap bH cH nH S bR cR V0 bA cA V z c busy t9 X9.out.K X9.out.sc X9.out.G X9.out.ok X9.out.p1 X9.out.p2 X9.out.p3).mono ?_
  rintro e z3⟨g,cg,xs,gA,cA',V',z',c',rfl,hwl,hlen,hrow,nwA,hA,okA,f,k'⟩
  have Z3:Hid (GX w p ao n cap bH cH nH S bR cR V0 bA cA V z c bs ba br z3):=X9.out.fw f k'
  have hs2:=X9.out.F.size
  have hbr2:=X9.out.R.lt
  have hn3:=X9.out.n3
  have hgbr:gA≠br:=by omega
  have HR:Hid (z3.ownsRow w.heap.size 33 11 (.slice (some ⟨g,0,none⟩) xs.length cg) xs.length (cs xs)):=row_down hrow hs2
  have RES:Hid (Wl xs/\xs.length<=gb (d+1)/\(gA=bA∨w.heap.size<=gA)/\Arr z3 gA (8*6) (vF V')/\absOK nH S 8 V0 8 V' z' c'=true):=⟨hwl,by have:=gb_pos (d+1);omega,by omega,hA,okA⟩
  obtain⟨r0,r1,r2⟩:=Z3.out.R.cells
  have rf:=Z3.out.R.free
  have rl:=Z3.out.R.lt
  have hrn:(Value.slice (some ⟨g,0,none⟩) xs.length cg).ownBlock≠some br:=grown_ne Z3.out.R HR.out (by decide)
  clear f k' hwl hlen hrow nwA hA okA s0 s1 a0 a1 a2 al1 al2
  go_wp2_with fail
  refine bodyPost_ret (v:=.tuple #[.slice (some ⟨g,0,none⟩) xs.length cg,.agg #[.slice (some ⟨gA,0,none⟩) 8 cA',.int .i64 z',.int .i64 c']]) (by simp[results,Try.results47,go_sem, *]) rfl ⟨g,cg,xs,gA,cA',V',z',c',rfl,RES.out.1,RES.out.2.1,row_set3 HR.out hrn _ _ _,RES.out.2.2.1,arr_set3 RES.out.2.2.2.1 hgbr _ _ _,RES.out.2.2.2.2,fw_set3 Z3.out.F (by have:=BO.out;omega) _ _ _,cur_set3 Z3.out.K (by have:=BO.out;omega) _ _ _⟩
 |false=>
  obtain⟨v0,v1,v2,v3,v4,v5,vf,vl⟩:=Y9.out.cells
  have R9:=Q19.out.X.R
  have hbr9:br<t9.heap.size:=R9.lt
  have hrn:(Value.slice (some ⟨g6,0,none⟩) AL.length c6).ownBlock≠some br:=grown_ne R9 Q19.out.Fr (by decide)
  have FIN:Hid (∀(t:World)(gA cA':Nat)(V':Nat->VV)(z' c':Int),Below t9.heap.size t9 t->(gA=bA∨w.heap.size<=gA)->gA≠br->Arr t9 gA (8*6) (vF V')->absOK nH S 8 V0 8 V' z' c'=true->GenR nH S V0 bA (gb (d+1)) w p ao n cap (.returned (.tuple #[.slice (some ⟨g6,0,none⟩) AL.length c6,.agg #[.slice (some ⟨gA,0,none⟩) 8 cA',.int .i64 z',.int .i64 c']])) (((t.setCell ⟨br,0,none⟩ (.slice (some ⟨gA,0,none⟩) 8 cA')).setCell ⟨br,1,none⟩ (.int .i64 z')).setCell ⟨br,2,none⟩ (.int .i64 c'))):=fun t gA cA' V' z' c' hb nw ne hA ok=>⟨g6,c6,AL,gA,cA',V',z',c',rfl,WLA.out.1,WLA.out.2,row_set3 (row_belowD Q19.out.Fr hb) hrn _ _ _,nw,arr_set3 (hA.below hb hA.lt) ne _ _ _,ok,fw_set3 (Q19.out.X.below hb).F (by have:=BO.out;omega) _ _ _,cur_set3 (Q19.out.X.below hb).K (by have:=BO.out;omega) _ _ _⟩
  by_cases h0:err=0
  ·skip
   have e1:(err !=0)=false:=by simp[h0]
   obtain⟨gy,cgy,Uy,hvy,nwy,nny,Ay,oky⟩:=Y9.out.ab h0
   subst h0
   simp only[Value.slice.injEq]at hvy
   obtain⟨rfl,rfl,rfl⟩:=hvy
   have hgyb:gy≠br:=by have:=Q19.out.X.n3;have:=ZB.out;omega
   have hgyw:gy=bA∨w.heap.size<=gy:=by have:=ZB.out;omega
   have hnob:no≠br:=by have:=ZB.out;omega
   go_upto_region 22 with fail
   have j0:∀w',Tn (some br) t9 w'->w'.cell? ⟨no,2,none⟩=some (.slice (some ⟨gy,0,none⟩) 8 cap7):=fun w' h=>(World.cell?_of_block (a:=⟨no,2,none⟩) (h no vl (by intro e;exact hnob (Option.some.inj e).symm))).trans v2
   have j1:∀w',Tn (some br) t9 w'->w'.cell? ⟨no,3,none⟩=some (.int .i64 z7):=fun w' h=>(World.cell?_of_block (a:=⟨no,3,none⟩) (h no vl (by intro e;exact hnob (Option.some.inj e).symm))).trans v3
   have j2:∀w',Tn (some br) t9 w'->w'.cell? ⟨no,4,none⟩=some (.int .i64 c7):=fun w' h=>(World.cell?_of_block (a:=⟨no,4,none⟩) (h no vl (by intro e;exact hnob (Option.some.inj e).symm))).trans v4
   refine wp_region_held_drew (S:=fun w'=>Tn (some br) t9 w') (by kernel_rfl) (Tn.of (Below.refl _ _).drew) (fun _=>?_)
   refine wpAnyH_tk 0 ?k42v rfl ?k42y ?k42r
   case k42y=>(intro w hSw;(try dsimp only at hSw);go_simp;try with_reducible rfl)
   try simp only[Act.put,List.getElem_toArray,List.getElem_cons_zero,List.setIfInBounds_toArray,List.set_cons_zero,List.set_cons_succ]
   refine wpAnyH_tk 1 ?k43v rfl ?k43y ?k43r
   case k43y=>(intro w hSw;(try dsimp only at hSw);go_simp;try with_reducible rfl)
   try simp only[Act.put,List.getElem_toArray,List.getElem_cons_zero,List.getElem_cons_succ,List.setIfInBounds_toArray,List.set_cons_zero,List.set_cons_succ]
   refine wpAnyH_tk 2 ?k44v rfl ?k44y ?k44r
   case k44y=>(intro w hSw;(try dsimp only at hSw);go_simp;try with_reducible rfl)
   try simp only[Act.put,List.getElem_toArray,List.getElem_cons_zero,List.getElem_cons_succ,List.setIfInBounds_toArray,List.set_cons_zero,List.set_cons_succ]
   refine wpAnyH_tk 3 ?k45v rfl ?k45y ?k45r
   case k45y=>(intro w hSw;(try dsimp only at hSw);go_simp;try with_reducible rfl)
   try simp only[Act.put,List.getElem_toArray,List.getElem_cons_zero,List.getElem_cons_succ,List.setIfInBounds_toArray,List.set_cons_zero,List.set_cons_succ]
   refine wpAnyH_tk 4 ?k46v rfl ?k46y ?k46r
   case k46y=>(intro w hSw;(try dsimp only at hSw);go_simp;try with_reducible rfl)
   try simp only[Act.put,List.getElem_toArray,List.getElem_cons_zero,List.getElem_cons_succ,List.setIfInBounds_toArray,List.set_cons_zero,List.set_cons_succ]
   have hbd:Below t9.heap.size t9 t9.drew:=(Below.refl _ _).drew
   generalize t9.drew=t0 at hbd⊢
   have R0:=R9.below hbd
   obtain⟨r0,r1,r2⟩:=R0.cells
   have rf:=R0.free
   have rl:=R0.lt
   have RES:=FIN.out t0 gy cap7 Uy z7 c7 hbd hgyw hgyb Ay oky
   have RS:Hid (GenR nH S V0 bA (gb (d+1)) w p ao n cap _ _):=RES
   have TT:Hid (Tn (some br) t9 t0):=Tn.of hbd
   clear RES hbd R0 j0 j1 j2 v0 v1 v2 v3 v4 v5 vf vl
   refine wpAnyH_ready (rs:=[5]) (by kernel_rfl) (by simp) ?_
   refine AllReadyH.cons rfl (fun KK hK=>?_) AllReadyH.nil
   go_simp
   refine hK.out _ _ (TT.out.set3 _ _ _) (fun _=>?_)
   clear hK KK
   refine wpAnyH_done (by kernel_rfl) ?_ _
   go_wp2_with fail
   refine bodyPost_ret (v:=.tuple #[.slice (some ⟨g6,0,none⟩) AL.length c6,.agg #[.slice (some ⟨gy,0,none⟩) 8 cap7,.int .i64 z7,.int .i64 c7]]) (by simp[results,Try.results47,go_sem, *]) rfl RS.out
  ·skip
   have e1:(err !=0)=true:=by simp[h0]
   have kb:=Q19.out.KB
   have hgbb:gB≠br:=by have:=kb.ge;have:=Q19.out.w2;omega
   have hgbw:gB=bA∨w.heap.size<=gB:=by have:=kb.ge;have:=Q19.out.w1;omega
   have hnbb:nb≠br:=by have:=kb.gn;have:=Q19.out.w2;omega
   go_upto_region 21 with fail
   have j0:∀w',Tn (some br) t9 w'->w'.cell? ⟨nb,0,none⟩=some (.slice (some ⟨gB,0,none⟩) 8 cB):=fun w' h=>(kb.N.tn h (by intro e;exact hnbb (Option.some.inj e).symm)).cells.1
   have j1:∀w',Tn (some br) t9 w'->w'.cell? ⟨nb,1,none⟩=some (.int .i64 zB):=fun w' h=>(kb.N.tn h (by intro e;exact hnbb (Option.some.inj e).symm)).cells.2.1
   have j2:∀w',Tn (some br) t9 w'->w'.cell? ⟨nb,2,none⟩=some (.int .i64 qB):=fun w' h=>(kb.N.tn h (by intro e;exact hnbb (Option.some.inj e).symm)).cells.2.2
   refine wp_region_held_drew (S:=fun w'=>Tn (some br) t9 w') (by kernel_rfl) (Tn.of (Below.refl _ _).drew) (fun _=>?_)
   refine wpAnyH_tk 0 ?k47v rfl ?k47y ?k47r
   case k47y=>(intro w hSw;(try dsimp only at hSw);go_simp;try with_reducible rfl)
   try simp only[Act.put,List.getElem_toArray,List.getElem_cons_zero,List.setIfInBounds_toArray,List.set_cons_zero,List.set_cons_succ]
   refine wpAnyH_tk 1 ?k48v rfl ?k48y ?k48r
   case k48y=>(intro w hSw;(try dsimp only at hSw);go_simp;try with_reducible rfl)
   try simp only[Act.put,List.getElem_toArray,List.getElem_cons_zero,List.getElem_cons_succ,List.setIfInBounds_toArray,List.set_cons_zero,List.set_cons_succ]
   refine wpAnyH_tk 2 ?k49v rfl ?k49y ?k49r
   case k49y=>(intro w hSw;(try dsimp only at hSw);go_simp;try with_reducible rfl)
   try simp only[Act.put,List.getElem_toArray,List.getElem_cons_zero,List.getElem_cons_succ,List.setIfInBounds_toArray,List.set_cons_zero,List.set_cons_succ]
   have hbd:Below t9.heap.size t9 t9.drew:=(Below.refl _ _).drew
   generalize t9.drew=t0 at hbd⊢
   have R0:=R9.below hbd
   obtain⟨r0,r1,r2⟩:=R0.cells
   have rf:=R0.free
   have rl:=R0.lt
   have RES:=FIN.out t0 gB cB VB zB qB hbd hgbw hgbb kb.A kb.ok
   have RS:Hid (GenR nH S V0 bA (gb (d+1)) w p ao n cap _ _):=RES
   have TT:Hid (Tn (some br) t9 t0):=Tn.of hbd
   clear RES hbd R0 j0 j1 j2 v0 v1 v2 v3 v4 v5 vf vl
   refine wpAnyH_ready (rs:=[3]) (by kernel_rfl) (by simp) ?_
   refine AllReadyH.cons rfl (fun KK hK=>?_) AllReadyH.nil
   go_simp
   refine hK.out _ _ (TT.out.set3 _ _ _) (fun _=>?_)
   clear hK KK
   refine wpAnyH_done (by kernel_rfl) ?_ _
   go_wp2_with fail
   refine bodyPost_ret (v:=.tuple #[.slice (some ⟨g6,0,none⟩) AL.length c6,.agg #[.slice (some ⟨gB,0,none⟩) 8 cB,.int .i64 zB,.int .i64 qB]]) (by simp[results,Try.results47,go_sem, *]) rfl RS.out
end Go.Proofs.Ytplnpgohdgialaa
