import Derived.Test.YtkckomianknjdaaGreatOfCoreF
import Derived.Test.YtkckomianknjdaaGreatOfFu7a
import Derived.Test.YtkckomianknjdaaGreatOfFtFit
set_option maxHeartbeats 16000000
set_option maxRecDepth 20000
namespace Go.Proofs.YtkckomianknjdaaGreat
open Go.RowKit Go.Deep
variable {B j:Nat}{u w:World}
theorem Wd(w:World)(B g x:Nat)(b:List SV)(o:w.ownsRow B 111 11 (Vs g b.length x) b.length (DL b))(n:Addr)(m d:Nat)(a:List SV)(F:m=a.length)(E:∀j u,(DL a)[j]?=some u->w.cell? (n.add j)=some u)(L:b.length+a.length<=1048576)(D:B<=w.heap.size):
 ∃c l k,(Builtin.append_ #[23,23] 23 #[Vs g b.length x,.slice (some n) m d]).run Tryz.prog w=.ok (Vs c (b++a).length l) k/\k.ownsRow B 111 11 (Vs c (b++a).length l) (b++a).length (DL (b++a))/\w.grownBy k (some g)/\(c=g∨c=w.heap.size):=by
 subst F;obtain⟨J,z,p,q,r⟩:=info_parts Sg;obtain⟨K,k,y,s,A,C,h⟩:=run_append_own_at (P:=Tryz.prog) w B 23 23 111 J _ 11 88 Tryz.underlying23 z p q r rfl Aa _ _ _ o n a.length d (DL a) (Jy a) E (Ug a) (by unfold maxLen;omega) AB D;have I:K≠ .slice none 0 0:=fun e=>by
  have:=(C.1 e).1;simp at this
 obtain⟨c,l,rfl⟩:=Xc s I;rw[<-List.length_append,<-Uz]at s;rw[<-List.length_append]at y;refine⟨c,l,k,y,by simpa using s,A,?_⟩;rcases h with h|h
 ·exact Or.inl (Option.some.inj h)
 ·exact Or.inr (Option.some.inj h)
theorem Ur:∀(a:List SV)(k:Nat),DL (a.take k)=(DL a).take (k*11)
 |a,0=>by simp[DL]
 |[],k+1=>by simp[DL]
 |x::l,k+1=>by
  show EZ x++DL (l.take k)=(EZ x++DL l).take ((k+1)*11);rw[Ur l k,show(k+1)*11=(EZ x).length+k*11 by show _=11+k*11;omega,List.take_length_add_append]
theorem Ua:∀(a:List SV)(k:Nat),DL (a.drop k)=(DL a).drop (k*11)
 |a,0=>by simp
 |[],k+1=>by simp[DL]
 |x::l,k+1=>by
  show DL (l.drop k)=(EZ x++DL l).drop ((k+1)*11);rw[Ua l k,show(k+1)*11=(EZ x).length+k*11 by show _=11+k*11;omega,List.drop_length_add_append]
theorem Qh{P:Program}{p:Region.Mode}{b:Array Oper}{Q:Exit->Act->World->Prop}{S:World->Prop}{q i:Nat}{is:List Nat}{z:Array Bool}{a:Act}{j:World}{o:Oper}(s x:Operand){t:TypeId}{v u I:Value}(l:b[i]?=some o)(r:Region.wanted o (yielded b a.tmps)=true)
 (d:o.op=.call {callee:=.builtin .append,args:=#[s,x],argTypes:=#[t,t]})(n:a.eval s=v)(y:a.eval x=u)(m:(Builtin.append_ #[t,t] o.type #[v,u]).run P w=.ok I j)(k:S j)(h:S j->wpAnyH P p b Q S q (z.setIfInBounds i true) (a.put o.dst I) j)(c:AllReadyH P p b Q S q z a w is):AllReadyH P p b Q S q z a w (i::is):=
 AllReadyH.cons l (fun A e=>by
  rw[if_pos r];unfold Oper.wp execOp;simp only[d,resolve,invoke,builtin,Sem.run_bind,Sem.run_pure,Result.andThen_ok,List.map_toArray,List.map_cons,List.map_nil,n,y,m];exact e _ _ k h) c
theorem Yj{e g n c k:Nat}{d:List Value}(h:w.ownsRow B e 11 (Vs g n c) n d)(r:k<=n):w.ownsRow B e 11 (Vs g k c) k (d.take (k*11)):=by
 have m:k*11<=n*11:=Nat.mul_le_mul_right _ r;rcases h.2 with⟨a,_⟩|⟨x,o,b,a,p,q,s,j,l,u⟩
 ·cases a
 ·simp only[Value.slice.injEq,Option.some.injEq,Addr.mk.injEq,and_true,true_and]at a
  obtain⟨rfl,rfl⟩:=a;exact⟨by rw[List.length_take,h.1];omega,.inr ⟨g,c,b,rfl,p,q,AB,j,l,by rw[<-u,List.take_take,Nat.min_eq_left m]⟩⟩
theorem WT(x:Int)(m:j<11):∀(n:List SV)(i:Nat),∃c:List SV,c.length=n.length/\(DL n).set (i*11+j) (Vi x)=DL c
 |[],i=>⟨[],rfl,by simp[DL]⟩
 |a::l,0=>by
  have e:∃s,(EZ a).set j (Vi x)=EZ s:=by
   match j,m with
   |0,_=>exact⟨{a with k:=x},rfl⟩
   |1,_=>exact⟨{a with op:=x},rfl⟩
   |2,_=>exact⟨{a with d:=x},rfl⟩
   |3,_=>exact⟨{a with a:=x},rfl⟩
   |4,_=>exact⟨{a with b:=x},rfl⟩
   |5,_=>exact⟨{a with imm:=x},rfl⟩
   |6,_=>exact⟨{a with h:=x},rfl⟩
   |7,_=>exact⟨{a with cond:=x},rfl⟩
   |8,_=>exact⟨{a with thn:=x},rfl⟩
   |9,_=>exact⟨{a with els:=x},rfl⟩
   |10,_=>exact⟨{a with proc:=x},rfl⟩
  obtain⟨s,q⟩:=e;refine⟨s::l,rfl,?_⟩;show(EZ a++DL l).set (0*11+j) _=EZ s++DL l;rw[List.set_append,if_pos (by show 0*11+j<11;omega),show 0*11+j=j by omega,q]
 |a::l,i+1=>by
  obtain⟨c,o,p⟩:=WT x m l i;refine⟨a::c,by simp[o],?_⟩;show(EZ a++DL l).set ((i+1)*11+j) _=EZ a++DL c;rw[List.set_append,if_neg (by show¬(i+1)*11+j<11;omega),show(i+1)*11+j-(EZ a).length=i*11+j by show(i+1)*11+j-11=_;omega,p]
structure Um(w:World)(p:Nat)(ao:Option Addr)(n cap g c m:Nat)(u:World):Prop where
 F:Fw p w u
 K:CG u p ao n cap
 lp:p<w.heap.size
 row:∃xs:List SV,xs.length=m/\u.ownsRow w.heap.size 111 11 (Vs g m c) m (DL xs)
section
variable{w:World}{p:Nat}{ao:Option Addr}{n cap g c m:Nat}{u u':World}
theorem Um.fw(h:Um w p ao n cap g c m u)(f:Fw p u u')(k:CG u' p ao n cap):Um w p ao n cap g c m u':=by
 obtain⟨a,e,r⟩:=h.row;exact⟨h.F.trans f,k,h.lp,a,e,EA r f h.lp⟩
theorem Um.put(h:Um w p ao n cap g c m u)(i:Nat)(k:j<11)(x:Int):Um w p ao n cap g c m (u.setCell (Va g (i*11+j)) (Vi x)):=by
 obtain⟨l,e,r⟩:=h.row;obtain⟨o,b,d⟩:=WT x k l i;have a:=Fa r (q:=g) rfl;have s:=h.lp;refine⟨h.F.put a _ _,h.K.put AB _ _,h.lp,o,b.trans e,?_⟩;rw[<-d];exact(r.stored _ _).1
theorem Um.facts(h:Um w p ao n cap g c m u):g<u.heap.size/\(∀j,u.frozen? (Va g j)=false)/\m<=c/\w.heap.size<=g:=by
 obtain⟨a,e,r⟩:=h.row;exact⟨Na r rfl,fun j=>r.frozenAt j,NN r,Fa r rfl⟩
theorem Um.kind(h:Um w p ao n cap g c m u){i:Nat}(d:i<m)(a:j<11):∃x:Int,u.cell? (Va g (i*11+j))=some (Vi x):=by
 obtain⟨b,e,r⟩:=h.row;rw[r.cellAt (i*11+j) AB,PS b Xl (i*11+j) AB];unfold I5;rw[show(i*11+j)/11=i by omega,show(i*11+j)%11=j by omega];match j,a with
 |0,_|1,_|2,_|3,_|4,_|5,_|6,_|7,_|8,_|9,_|10,_=>exact⟨_,rfl⟩
theorem Um.ans(h:Um w p ao n cap g c m u){q:Nat}(a:m<=q):Yd q w p ao n cap (.returned (Vs g m c)) u:=by
 obtain⟨b,rfl,r⟩:=h.row;exact⟨g,c,b,rfl,a,r,h.F,h.K⟩
end
theorem Rv(p:Nat)(J:Option Addr)(n r:Nat)(gL cL:Nat)(M:List SV)(B:Nat)(w:World)(hc:CG w p J n r)(hL:w.ownsRow B 111 11 (Vs gL M.length cL) M.length (DL M))(hl:M.length<=9330):
 Calls Tryz.prog 39 #[Vq p,Vs gL M.length cL] w (Yd 9330 w p J n r):=by
 have HC:=hxy hc;have HL:=hxy hL;have lp:=hc.lt;have lg:=Na hL rfl;clear hc hL;go_enter Tryz.func39,Tryz.ntmps39;obtain⟨y0,ab,X,o0⟩:∃y,w.alloc (.cells #[] 111)=y/\Bw w y/\y.ownsRow w.heap.size 111 11 (Vs w.heap.size ([]:List SV).length 0) ([]:List SV).length (DL []):=⟨_,rfl,Ah,World.ownsRow_lit w #[] 0 BP (by unfold maxLen;omega) rfl⟩
 obtain⟨g,c,y1,l,o1,R,_⟩:=Wd y0 w.heap.size w.heap.size 0 [] o0 ⟨gL,0,none⟩ M.length cL M rfl (fun j u hj=>by
  have O:=(List.getElem?_eq_some_iff.1 hj).1;rw[Jy]at O;rw[Addr.add_lit,Nat.zero_add,X.cell (p:=Va gL j) lg,HL.cellAt j AB,hj]) (by simp;omega) X.size
 have b1:Bw w y1:=X.trans (Al.grown R X.size (by intro k N;have e:=Option.some.inj N;omega));obtain⟨m,hm⟩:=BG M.length;simp only[List.nil_append,List.length_nil,hm]at l o1;have X1:Hid (Um w p J n r g c m y1):=⟨.of_below b1,HC.below b1,lp,M,hm,o1⟩
 rw[hm]at hl;rw[hm];rw[<-ab]at l;clear ab X o0 o1 R b1 HC HL lg hm;by_cases h0:m=0
 ·subst h0
  go_wp2_with(first|(at_builtin;refine D8 rfl _ _ 23 rfl rfl rfl l ?_));go_ret;exact X1.ans AB
 have ad:¬((m:Int)=0):=AB;have ae:(1:Int)<=m:=AB;go_wp2_with(first|(at_builtin;refine D8 rfl _ _ 23 rfl rfl rfl l ?_));clear l ad h0;refine(AX p J n r m _ ae X1.K).mono ?_;rintro e y2⟨x,rfl,x0,xm,f,k⟩;have X2:=hxy (X1.fw f k);clear f k X1;obtain⟨i,rfl⟩:∃i:Nat,x=(i:Int):=⟨x.toNat,AB⟩
 have E:i<m:=AB;clear x0 xm;go_wp2_with fail;refine(AX p J n r 6 _ AB X2.K).mono ?_;rintro e y3⟨k,rfl,k0,k6,f,I⟩;have s:=hxy (X2.fw f I);clear f I X2;obtain⟨kd,Y⟩:=s.kind E (j:=0) AB;rw[Nat.add_zero]at Y;have D:=s.facts.1;have ac:(i:Int)<m:=AB;by_cases hA:k<4/\kd=1
 ·obtain⟨N,rfl⟩:=hA
  go_wp2_with fail;refine(Gv p J n r 1 28 _ AB AB AB s.K).mono ?_;rintro e y4⟨z,rfl,_,f,I⟩;have A:=hxy (s.fw f I);clear f I s Y D;obtain⟨D,Z,_,_⟩:=A.facts;obtain⟨_,d1⟩:=A.kind E (j:=1) AB;obtain⟨_,d2⟩:=A.kind E (j:=2) AB;obtain⟨_,d3⟩:=A.kind E (j:=3) AB;obtain⟨_,d4⟩:=A.kind E (j:=4) AB;obtain⟨_,d5⟩:=A.kind E (j:=5) AB;obtain⟨_,d6⟩:=A.kind E (j:=6) AB;unfold IV.c;go_wp2_with fail;go_ret;exact((((((A.put i (j:=1) AB z.o).put i (j:=2) AB z.d).put i (j:=3) AB z.a).put i (j:=4) AB z.b).put i (j:=5) AB z.i).put i (j:=6) AB z.h).ans AB
 by_cases hB:k=4
 ·subst hB
  obtain⟨L,af,r3⟩:=s.row;have U:=hxy af;have R3:Hid (y3.drew.ownsRow w.heap.size 111 11 (Vs g m c) m (DL L)):=Aw r3 Al.drew;have al:=s.facts.2.2.1;have ah:i<=c:=AB;obtain⟨j,hj⟩:∃j:Nat,i+1=j:=⟨_,rfl⟩
  have hw:IntKind.i64.wrap ((i:Int)+1)=(j:Int):=by rw[IntKind.wrap_i64]<;>omega
  have aj:(j:Int)<=m:=AB;have ai:(0:Int)<=j:=AB;obtain⟨o,ho,aa⟩:∃o,(if c=j then(some ⟨g,0,none⟩:Option Addr)else some ⟨g,j*11,none⟩)=some ⟨g,o,none⟩/\(j<m->o=j*11):=by
   by_cases h:c=j
   ·exact⟨0,if_pos h,fun h'=>by omega⟩
   ·exact⟨j*11,if_neg h,fun _=>rfl⟩
  have HO:=hxy aa;have HJ:=hxy hj;have HI:=hxy E;clear aa hj Y hA E ac k0 k6;go_upto_region 9 with fail;refine wp_region_held_drew (S:=fun _=>True) Ab trivial (fun _=>?_);refine lM [0,1,2,3,4,5,6] ?_;have C:(L.take i).length=i:=by have:=U.out;have:=HI.out;rw[List.length_take];omega
  have r4:y3.drew.ownsRow w.heap.size 111 11 (Vs g (L.take i).length c) (L.take i).length (DL (L.take i)):=by rw[Ur,C];exact Yj R3 (by have:=HI.out;omega)
  obtain⟨g2,c2,y4,l,o4,R,_⟩:=Wd y3.drew w.heap.size g c (L.take i) r4 ⟨g,o,none⟩ (m-j) (c-j) (L.drop j) (by rw[List.length_drop,U.out]) (fun q u hq=>by
   have O:=(List.getElem?_eq_some_iff.1 hq).1;rw[Jy,List.length_drop,U.out]at O;rw[Addr.add_lit,HO.out AB,R3.cellAt (j*11+q) AB];rw[Ua,List.getElem?_drop]at hq;exact hq) (by rw[C,List.length_drop,U.out];have:=HI.out;omega) (by have:=s.F.size;rw[World.size_drew];exact this)
  have Q:(L.take i++L.drop j).length=m-1:=by rw[List.length_append,C,List.length_drop,U.out];have:=HJ.out;have:=HI.out;omega
  have A:Hid (Um w p J n r g2 c2 (m-1) y4):=by
   have ag:=s.facts.2.2.2;have k4:Fw p w y4:=(s.F.trans (.of_below Al.drew)).grown R (fun k N=>by have e:=Option.some.inj N;omega);have lp:=s.lp;refine⟨k4,(s.K.below Al.drew).grown R (fun k N=>by have e:=Option.some.inj N;omega),lp,_,Q,by rw[<-Q];exact o4⟩
  rw[C,Q]at l;refine wpAnyH_ready (rs:=[7]) Ab AY ?_;refine Qh (.tmp 41) (.tmp 45) rfl Ab rfl rfl rfl l trivial (fun _=>?_) AllReadyH.nil;refine BV ?_;refine Ao 8 ?_;refine wpAnyH_done Ab ?_ _;clear l r4 o4 R;go_wp2_with fail;go_ret;exact A.ans AB
 have am:(decide (k<4)&&(kd==1))=false:=by
  by_cases h:k<4
  ·have:¬kd=1:=fun e=>hA ⟨h,e⟩
   simp[this]
  ·simp[h]
 by_cases N:k<4
 ·have ak:¬kd=1:=fun e=>hA ⟨N,e⟩
  go_wp2_with fail;refine(AX p J n r 6 _ AB s.K).mono ?_;rintro e y4⟨z,rfl,_,_,f,I⟩;have A:=hxy (s.fw f I);clear f I s Y D;obtain⟨D,Z,_,_⟩:=A.facts;obtain⟨_,d1⟩:=A.kind E (j:=7) AB;go_wp2_with fail;go_ret;exact(A.put i (j:=7) AB z).ans AB
 ·go_wp2_with fail
  refine(AX p J n r 6 _ AB s.K).mono ?_;rintro e y4⟨z,rfl,_,_,f,I⟩;have A:=hxy (s.fw f I);clear f I s Y D;obtain⟨D,Z,_,_⟩:=A.facts;obtain⟨_,d1⟩:=A.kind E (j:=7) AB;go_wp2_with fail;go_ret;exact(A.put i (j:=7) AB z).ans AB
theorem Yd.down{m:Nat}{K:World}{p:Nat}{U:Option Addr}{n Y:Nat}{e:Ending}(h:Yd m K p U n Y e u)(f:Fw p w K):Yd m w p U n Y e u:=by
 obtain⟨g,a,j,b,d,r,c,k⟩:=h;exact⟨g,a,j,b,d,DT r f.size,f.trans c,k⟩
theorem Nr(p:Nat)(c:Option Addr)(n a:Nat)(d o l:Nat)(S:Nat->HS)(j q:Nat)(s:Nat->VV)(w:World)(L:CG w p c n a)(h1:Dl w d l S j 8 s)(h3:Ed l S 8 s=true)(p1:d≠p)(p2:j≠p):
 Calls Tryz.prog 13 #[Vq p,.agg #[Vs d l o,Vs j 8 q]] w (Yd 9330 w p c n a):=by
 have U:=hxy L;have HS:=hxy h1;have X:=hxy h3;have lp:=L.lt;go_enter Tryz.func13,Tryz.ntmps13;go_upto_region 1 with fail;obtain⟨N,B,u⟩:∃y,w.alloc (.cells #[Vs d l o,Vs j 8 q] 45)=y/\Bw w y:=⟨_,rfl,Ah⟩
 have m:=Bh w (.cells #[Vs d l o,Vs j 8 q] 45);rw[B]at m⊢;have n0:=(AJ m 0).trans rfl;have n1:=(AJ m 1).trans rfl;have nl:=Bz m;have Q:Hid (Fw p w N):=.of_below u;have Y:=hxy (U.below u);have S0:=hxy (HS.below u);go_wp2_with fail;refine(Lc p c n a d o l S j q s N Y S0 X p1 p2).mono ?_;rintro e y1 h;obtain⟨g,x,D,rfl,M,r,z,C⟩:=h.down Q;have R1:=hxy r;have R:=hxy z;have K1:=hxy C;go_wp2_with fail;refine(Bv p c n a 6 _ AB K1).mono ?_;rintro e O⟨b,rfl,f,k⟩;have I:=hxy (EA R1 f lp);have E:=hxy (R.trans f);have F:=hxy k;cases b with
 |true=>
  go_wp2_with fail;refine(Rv p c n a g x D w.heap.size O F I M).mono ?_;rintro e y3 h;obtain⟨K,J,zs,rfl,A,r,z,C⟩:=h.down E;have Z:Hid (Yd 9330 w p c n a (.returned (Vs K zs.length J)) y3):=⟨K,J,zs,rfl,A,r,z,C⟩
  go_wp2_with fail;go_ret;exact Z
 |false=>
  have Z:Hid (Yd 9330 w p c n a (.returned (Vs g D.length x)) O):=⟨g,x,D,rfl,M,I,E,F⟩
  go_wp2_with fail;go_ret;exact Z
theorem ML.putlt{r:Nat}{m:Md}(h:ML B m u)(l:r<B)(j:Nat)(v:Value):ML B m (u.setCell (Va r j) v):=
 have k:∀{e s a:Nat}{b:Value}{c:List Value},u.ownsRow B e s b a c->(u.setCell (Va r j) v).ownsRow B e s b a c:=fun h=>CK h (fun e=>by have:=Zy h e;omega) j v
 ⟨k h.R,k h.H,k h.O,fun x d=>k (h.D x d),h.rr,h.hr⟩
theorem ML.dn{c:Nat}{m:Md}(h:ML B m u)(a:c<=B):ML c m u:=⟨Kt h.R a,Kt h.H a,Kt h.O a,fun x b=>Kt (h.D x b) a,h.rr,h.hr⟩
theorem Ve{o J:Nat}{S:Nat->HS}{M:Nat->VV}(e:Ed o S J M=true):o<=8/\∀i,i<o->1<=(S i).size/\(S i).size<=4096:=by
 unfold Ed Hu at e;simp only[Bool.and_eq_true,decide_eq_true_eq,List.all_eq_true,List.mem_range]at e;exact⟨e.1.1,e.1.2⟩
structure DE(w1:World)(p:Nat)(ao:Option Addr)(n cap g cg:Nat)(xs:List SV)(r q:Nat)(m:Md)(u:World):Prop where
 W:DW w1 p ao n cap m u
 P:u.ownsRow w1.heap.size 111 11 (Vs g xs.length cg) xs.length (DL xs)
 Z:u.heap[r]?=some (.cells G8.a 28)
 Q:u.heap[q]?=some (.cells m.a 28)
 bm:m.rs.length<=8/\m.hs.length<=8/\m.os.length<=2
 rp:r<p
 wq:w1.heap.size<=q
section
variable{w1 u u':World}{p n cap g cg r q:Nat}{xs:List SV}{ao:Option Addr}{m m2:Md}
theorem DE.fw(h:DE w1 p ao n cap g cg xs r q m u)(f:Fw p u u')(c:CG u' p ao n cap):DE w1 p ao n cap g cg xs r q m u':=
 ⟨h.W.fw f c,EA h.P f h.W.pw,Gf h.Z f (by have:=h.rp;omega),Gf h.Q f (by have:=h.wq;have:=h.W.pw;omega),h.bm,h.rp,h.wq⟩
theorem DE.rq(h:DE w1 p ao n cap g cg xs r q m u):r≠q:=by have:=h.rp;have:=h.wq;have:=h.W.pw;omega
theorem DE.setS(h:DE w1 p ao n cap g cg xs r q m u)(x:Int):DE w1 p ao n cap g cg xs r q {m with st:=x} (u.setCell (Va q 7) (Vi x)):=by
 have k:=h.W.put h.wq h.Q 7 (Vi x);exact⟨⟨k.F,k.K,k.R,k.H,k.O,k.D,k.rr,k.hr,k.pw⟩,CK h.P (CF h.Q h.P Aa) _ _,BJ h.Z h.rq _ _,BK h.Q 7 (Vi x),h.bm,h.rp,h.wq⟩
theorem DE.setP(h:DE w1 p ao n cap g cg xs r q m u)(x:Int):DE w1 p ao n cap g cg xs r q {m with pc:=x} (u.setCell (Va q 6) (Vi x)):=by
 have k:=h.W.put h.wq h.Q 6 (Vi x);exact⟨⟨k.F,k.K,k.R,k.H,k.O,k.D,k.rr,k.hr,k.pw⟩,CK h.P (CF h.Q h.P Aa) _ _,BJ h.Z h.rq _ _,BK h.Q 6 (Vi x),h.bm,h.rp,h.wq⟩
theorem DE.st9(h:DE w1 p ao n cap g cg xs r q m u)(d:DW w1 p ao n cap m2 u)(b:m2.rs.length<=8/\m2.hs.length<=8/\m2.os.length<=2):DE w1 p ao n cap g cg xs r q m2 (((((((((u.setCell (Va q 0) m2.vR).setCell (Va q 1) (.bool m2.z)).setCell (Va q 2) (.bool m2.c)).setCell (Va q 3) (.bool m2.hz)).setCell (Va q 4) (.bool m2.hc)).setCell (Va q 5) m2.vH).setCell (Va q 6) (Vi m2.pc)).setCell (Va q 7) (Vi m2.st)).setCell (Va q 8) m2.vO):=by
 have j:=CF h.Q h.P Aa;have k:=h.rq;refine⟨d.put9 h.wq h.Q _ _ _ _ _ _ _ _ _,?_,?_,?_,b,h.rp,h.wq⟩
 ·iterate 9 refine CK ?_ j _ _
  exact h.P
 ·iterate 9 refine BJ ?_ k _ _
  exact h.Z
 ·have e:((((((((m.a.setIfInBounds 0 m2.vR).setIfInBounds 1 (.bool m2.z)).setIfInBounds 2 (.bool m2.c)).setIfInBounds 3 (.bool m2.hz)).setIfInBounds 4 (.bool m2.hc)).setIfInBounds 5 m2.vH).setIfInBounds 6 (Vi m2.pc)).setIfInBounds 7 (Vi m2.st)).setIfInBounds 8 m2.vO=m2.a:=by simp[Md.a]
  rw[<-e];exact BK (BK (BK (BK (BK (BK (BK (BK (BK h.Q 0 _) 1 _) 2 _) 3 _) 4 _) 5 _) 6 _) 7 _) 8 _
theorem DE.cells(h:DE w1 p ao n cap g cg xs r q m u):(u.cell? (Va q 0)=some m.vR/\u.cell? (Va q 1)=some (.bool m.z)/\u.cell? (Va q 2)=some (.bool m.c)/\u.cell? (Va q 3)=some (.bool m.hz)/\u.cell? (Va q 4)=some (.bool m.hc)/\u.cell? (Va q 5)=some m.vH/\u.cell? (Va q 6)=some (Vi m.pc)/\u.cell? (Va q 7)=some (Vi m.st)/\u.cell? (Va q 8)=some m.vO)/\(∀j,u.frozen? (Va q j)=false)/\q<u.heap.size:=
 ⟨⟨AJ h.Q 0,AJ h.Q 1,AJ h.Q 2,AJ h.Q 3,AJ h.Q 4,AJ h.Q 5,AJ h.Q 6,AJ h.Q 7,AJ h.Q 8⟩,CS h.Q,(Cj.1 h.Q).1⟩
abbrev ji(w1:World)(p:Nat)(ao:Option Addr)(n cap g cg:Nat)(xs:List SV)(r q:Nat)(k:Int)(s3 s5 s7 s8 s9 s10:Value)(u:World):Prop:=
 s3=.pointer (some ⟨r,0,none⟩)/\s5=.pointer (some ⟨p,0,none⟩)/\s7=.slice (some ⟨g,0,none⟩) xs.length cg/\s8=.pointer (some ⟨q,0,none⟩)/\(∃fu:Int,s9=.int .i64 fu)/\s10=.int .i64 k/\∃m,DE w1 p ao n cap g cg xs r q m u
end
def lG(w:World)(e:Ending)(w':World):Prop:=
 ∃(g cg:Nat)(xs:List SV)(m:Md)(fu:Int),e=.returned (.tuple #[Vs g xs.length cg,.agg m.a,Vi fu])/\xs.length<=9330/\w'.ownsRow w.heap.size 111 11 (Vs g xs.length cg) xs.length (DL xs)/\(m.rs.length<=8/\m.hs.length<=8/\m.os.length<=2)/\ML w.heap.size m w'/\Below w.heap.size w w'
theorem QI(C:Option Addr)(n l:Nat)(w:World)(hn:n<=1048576)(hr:Gx w w.heap.size C n):
 Calls Tryz.prog 4 #[.slice C n l] w (lG w):=by
 have HR:=hxy hr;clear hr;go_enter Tryz.func4,Tryz.ntmps4;go_upto_region 1 with fail;obtain⟨u0,am,aa,ab⟩:∃y,w.alloc (.cells #[.slice none 0 0,.bool false,.bool false,.bool false,.bool false,.slice none 0 0,Vi 0,Vi 0,.slice none 0 0] 28)=y/\Bw w y/\y.heap[w.heap.size]?=some (.cells G8.a 28):=⟨_,rfl,Ah,Bh _ _⟩
 rw[am];obtain⟨r,al⟩:=BG w.heap.size;have az:w.heap.size<=r:=AB;rw[al]at ab⊢;have Z0:=hxy ab;have B0:=hxy aa;have zr:r<u0.heap.size:=(Cj.1 ab).1;have aj:Gx u0 u0.heap.size C n:=by
  rcases HR.out with h|⟨b,av,h1,h2,h3⟩
  ·exact .inl h
  ·exact .inr ⟨b,av,h1,DY h2 aa.size,fun i hi=>by obtain⟨v,q1,q2,q3⟩:=h3 i hi;exact⟨v,q1,q2,(aa.cell (p:=Va b (av+i)) h2).trans q3⟩⟩
 have af:=hxy aj;clear am aa ab al aj HR;go_wp2_with fail;refine(VL C n l u0 hn af).mono ?_;rintro e u1⟨p,rfl,hp,b1,c1⟩;have B1:=hxy (B0.trans (b1.mono B0.size));have Z1:=hxy ((b1.block r zr).trans Z0);have C1:=hxy c1;have rp:r<p:=AB;have lp:=c1.lt;have ae:=B1.size;clear b1 c1 Z0 B0 af;go_wp2_with fail;refine(OQ p C n l u1 C1).mono ?_;rintro e u2⟨bH,cH,nH,S,bR,cR,V0,rfl,aA,aB,sc,ok,gH,gR,f2,k2,_,_⟩;have G2:=hxy sc;have OK:=hxy ok;have F2:=hxy f2;have K2:=hxy k2;have p1:bH≠p:=AB;have p2:bR≠p:=AB;clear sc ok f2 k2 C1 gH gR;go_upto_region 3 with fail;obtain⟨u3,an,b3⟩:∃y,u2.alloc (.cells #[Vs bH nH cH,Vs bR 8 cR] 45)=y/\Bw u2 y:=⟨_,rfl,Ah⟩
 have n3:=Bh u2 (.cells #[Vs bH nH cH,Vs bR 8 cR] 45);rw[an]at n3⊢;have pq:p≠u2.heap.size:=by have:=F2.size;omega
 obtain⟨qs,ak⟩:=BG u2.heap.size;rw[ak]at n3 pq⊢;have N3:=hxy n3;have F3:Hid (Fw p u1 u3):=F2.trans (.of_below b3);have K3:=hxy (K2.below b3);have G3:=hxy (G2.below b3);have n0:=(AJ n3 0).trans rfl;have n1:=(AJ n3 1).trans rfl;have nl:=Bz n3;clear an b3 n3 ak F2 K2 G2;go_wp2_with fail;refine(Nr p C n l bH cH nH S bR cR V0 u3 K3 G3 OK p1 p2).mono ?_;rintro e u4 h4;obtain⟨g,Y,M,rfl,hl,r4,f4,k4⟩:=h4;have P4:=hxy (DT r4 F3.size);have N4:=hxy (Gf N3 f4 pq);have F4:=hxy (F3.trans f4);have K4:=hxy k4;have G4:Hid (Dl u4 bH nH S bR 8 V0):=⟨f4.arr G3.h p1,f4.arr G3.r p2⟩
 clear r4 f4 k4 n0 n1 nl N3 F3 K3 G3;have n0:=(AJ N4 0).trans rfl;have n1:=(AJ N4 1).trans rfl;have nl:=Bz N4;go_wp2_with fail;refine(OZ p C n l bH cH nH S bR cR V0 u4 K4 G4.h G4.r p1 p2 AB (Ve OK).2 (Dh.1 (U0 OK)).2.2.1).mono ?_;rintro e u5⟨m,rfl,fm,d5⟩;have D5:=d5.down F4 lp;have P5:=hxy (EA P4 d5.F lp);have Z5:Hid (u5.heap[r]?=some (.cells G8.a 28)):=Gf (Gf Z1 F4 AB) d5.F AB;have bm:m.rs.length<=8/\m.hs.length<=8/\m.os.length<=2:=⟨by rw[fm.nr];exact BP,by rw[fm.nh];omega,by rw[fm.h.form];exact Nat.zero_le _⟩
 obtain⟨J,L,D,d,E,I,hm⟩:=Md.form D5;obtain⟨vR,O,N,s,o,vH,R,U,vO,B,z,A⟩:=m;dsimp only at hm;obtain⟨rfl,rfl,rfl⟩:vR=.slice J B.length L/\vH=.slice D z.length d/\vO=.slice E A.length I:=by
  injection hm with e1 _ _ _ _ e2 _ _ e3;exact⟨e1,e2,e3⟩
 have W5:=hxy D5;have BM:Hid _:=bm;clear D5 hm bm fm d5 n0 n1 nl N4 F4 K4 G4 P4 Z1;unfold Md.a;dsimp only;go_upto_region 5 with fail;obtain⟨u6,ap,b6,x6⟩:∃y,u5.alloc (.cells #[.slice J B.length L,.bool O,.bool N,.bool s,.bool o,.slice D z.length d,Vi R,Vi U,.slice E A.length I] 28)=y/\Bw u5 y/\y.heap[u5.heap.size]?=some (.cells #[.slice J B.length L,.bool O,.bool N,.bool s,.bool o,.slice D z.length d,Vi R,Vi U,.slice E A.length I] 28):=⟨_,rfl,Ah,Bh _ _⟩
 rw[ap];obtain⟨q,hq⟩:=BG u5.heap.size;have wq:u1.heap.size<=q:=by have:=W5.F.size;omega
 rw[hq]at x6⊢;have S6:Hid (DE u1 p C n l g Y M r q ⟨.slice J B.length L,O,N,s,o,.slice D z.length d,R,U,.slice E A.length I,B,z,A⟩ u6):=⟨W5.below b6,Aw P5 b6,Ba Z5 b6,x6,BM,rp,wq⟩
 clear ap b6 x6 hq W5 P5 Z5 BM;go_wp2_with fail;refine(AX p C n l 120 _ AB S6.W.K).mono ?_;rintro e u7⟨fu,rfl,_,_,f,c⟩;have S7:=hxy (S6.fw f c);clear f c S6;go_wp2_with fail;refine(AX p C n l 24 _ AB S7.W.K).mono ?_;rintro e u8⟨k,rfl,k0,k1,f,c⟩;have S8:=hxy (S7.fw f c);clear f c S7;obtain⟨m,x⟩:∃m,Hid (DE u1 p C n l g Y M r q m u8):=⟨_,S8⟩
 clear S8;go_upto_if 26 with fail;go_cut [3,5,7,8,9,10](ji u1 p C n l g Y M r q k)
 case first=>
  by_cases hk:k<3
  ·go_wp2_with fail
   refine(Od p C n l u8 x.W.K).mono ?_;rintro e u9⟨m2,rfl,h1,h2,h3,d9⟩;have S9:=hxy (x.fw d9.F d9.K);have D9:=d9.down x.W.F lp;have BM:Hid (m2.rs.length<=8/\m2.hs.length<=8/\m2.os.length<=2):=⟨h1,AB,h3⟩
   clear d9 h1 h2 h3 x;obtain⟨J,L,D,d,E,I,hm⟩:=Md.form D9;obtain⟨vR,O,N,s,o,vH,R,U,vO,B,z,A⟩:=m2;dsimp only at hm;obtain⟨rfl,rfl,rfl⟩:vR=.slice J B.length L/\vH=.slice D z.length d/\vO=.slice E A.length I:=by
    injection hm with e1 _ _ _ _ e2 _ _ e3;exact⟨e1,e2,e3⟩
   have W9:=hxy D9;clear D9 hm;obtain⟨⟨c0,c1,c2,c3,c4,c5,c6,c7,c8⟩,cf,ql⟩:=S9.cells;unfold Md.a;dsimp only;go_wp2_with fail;go_meet;have ag:=S9.st9 W9 BM;dsimp only at ag;exact⟨rfl,rfl,rfl,rfl,⟨_,rfl⟩,rfl,_,ag⟩
  ·go_wp2_with fail
   go_meet;exact⟨rfl,rfl,rfl,rfl,⟨_,rfl⟩,rfl,_,x⟩
 case rest=>
 clear x;obtain⟨rfl,rfl,rfl,rfl,⟨fu,rfl⟩,rfl,m,fx⟩:=hcut;have x:=hxy fx;clear fx;generalize wc=u9 at x⊢;go_upto_if 30 with fail;go_cut [3,5,7,8,9,10](ji u1 p C n l g Y M r q k)
 case first=>
  by_cases hk:k=3
  ·go_wp2_with fail
   refine(AX p C n l 2 _ AB x.W.K).mono ?_;rintro e v9⟨y,rfl,y0,y1,f,c⟩;have S9:=hxy (x.fw f c);clear f c;go_wp2_with fail;go_meet;exact⟨rfl,rfl,rfl,rfl,⟨_,rfl⟩,by rw[hk],_,S9⟩
  ·go_wp2_with fail
   go_meet;exact⟨rfl,rfl,rfl,rfl,⟨_,rfl⟩,rfl,_,x⟩
 case rest=>
 clear x;obtain⟨rfl,rfl,rfl,rfl,⟨fu,rfl⟩,rfl,m,fx⟩:=hcut;have x:=hxy fx;clear fx;generalize wc=ua at x⊢;go_upto_if 35 with fail;go_cut [3,5,7,8,9,10](ji u1 p C n l g Y M r q k)
 case first=>
  by_cases hk:k=4
  ·obtain⟨⟨c0,c1,c2,c3,c4,c5,c6,c7,c8⟩,cf,ql⟩:=x.cells
   go_wp2_with fail;go_meet;have S9:=x.setS 1;exact⟨rfl,rfl,rfl,rfl,⟨_,rfl⟩,rfl,_,S9⟩
  ·go_wp2_with fail
   go_meet;exact⟨rfl,rfl,rfl,rfl,⟨_,rfl⟩,rfl,_,x⟩
 case rest=>
 clear x;obtain⟨rfl,rfl,rfl,rfl,⟨fu,rfl⟩,rfl,m,fx⟩:=hcut;have x:=hxy fx;clear fx;generalize wc=ub at x⊢;go_upto_if 38 with fail;go_cut [3,5,7,8,9,10](ji u1 p C n l g Y M r q k)
 case first=>
  by_cases hk:k=5
  ·obtain⟨⟨c0,c1,c2,c3,c4,c5,c6,c7,c8⟩,cf,ql⟩:=x.cells
   go_wp2_with fail;go_meet;have S9:=x.setP 7;exact⟨rfl,rfl,rfl,rfl,⟨_,rfl⟩,rfl,_,S9⟩
  ·go_wp2_with fail
   go_meet;exact⟨rfl,rfl,rfl,rfl,⟨_,rfl⟩,rfl,_,x⟩
 case rest=>
 clear x;obtain⟨rfl,rfl,rfl,rfl,⟨fu,rfl⟩,rfl,m,fx⟩:=hcut;have x:=hxy fx;clear fx;generalize wc=uc at x⊢;go_upto_region 15 with fail;have X:Hid (DE u1 p C n l g Y M r q m uc.drew):=x.fw (.of_below Al.drew) (x.W.K.below Al.drew);obtain⟨J,L,D,d,E,I,hm⟩:=Md.form X.W;obtain⟨vR,O,N,s,o,vH,R,U,vO,B,z,A⟩:=m;dsimp only at hm;obtain⟨rfl,rfl,rfl⟩:vR=.slice J B.length L/\vH=.slice D z.length d/\vO=.slice E A.length I:=by
  injection hm with e1 _ _ _ _ e2 _ _ e3;exact⟨e1,e2,e3⟩
 clear hm x;have hT:=X.Q;have j:∀u:World,u.heap[q]?=some (.cells #[.slice J B.length L,.bool O,.bool N,.bool s,.bool o,.slice D z.length d,Vi R,Vi U,.slice E A.length I] 28)->u.cell? (Va q 0)=some (.slice J B.length L)/\u.cell? (Va q 1)=some (.bool O)/\u.cell? (Va q 2)=some (.bool N)/\u.cell? (Va q 3)=some (.bool s)/\u.cell? (Va q 4)=some (.bool o)/\u.cell? (Va q 5)=some (.slice D z.length d)/\u.cell? (Va q 6)=some (Vi R)/\u.cell? (Va q 7)=some (Vi U)/\u.cell? (Va q 8)=some (.slice E A.length I):=fun u h=>q9 h
 have j0:=fun u h=>(j u h).1
 have j1:=fun u h=>(j u h).2.1
 have j2:=fun u h=>(j u h).2.2.1
 have j3:=fun u h=>(j u h).2.2.2.1
 have j4:=fun u h=>(j u h).2.2.2.2.1
 have j5:=fun u h=>(j u h).2.2.2.2.2.1
 have j6:=fun u h=>(j u h).2.2.2.2.2.2.1
 have j7:=fun u h=>(j u h).2.2.2.2.2.2.2.1
 have j8:=fun u h=>(j u h).2.2.2.2.2.2.2.2
 clear j;refine wp_region_held_drew (S:=fun u=>u.heap[q]?=some (.cells #[.slice J B.length L,.bool O,.bool N,.bool s,.bool o,.slice D z.length d,Vi R,Vi U,.slice E A.length I] 28)) Ab hT (fun _=>?_);refine lM [0,1,2,3] ?_;obtain⟨z0,z1,z2,z3,z4,z5,z6,z7,z8,zf,zz⟩:=z9 X.Z;obtain⟨ux,ar⟩:=BG uc.drew;rw[ar]at X hT z0 z1 z2 z3 z4 z5 z6 z7 z8 zf zz⊢;have ax:=X.rq.symm;refine AO 4 rfl (fun KK hK=>?_);go_simp;have ay:r<u1.heap.size:=AB;have aw:(Vs g M.length Y).ownBlock≠some r:=fun e=>by have:=Fa X.P e;omega
 have ah:Bw w ux:=X.W.F.below B1 AB ae;obtain⟨uy,au,ai,ad,My,Py,By⟩:∃y,((((((((ux.setCell (Va r 0) (.slice J B.length L)).setCell (Va r 1) (.bool O)).setCell (Va r 2) (.bool N)).setCell (Va r 3) (.bool s)).setCell (Va r 4) (.bool o)).setCell (Va r 5) (.slice D z.length d)).setCell (Va r 6) (Vi R)).setCell (Va r 7) (Vi U)).setCell (Va r 8) (.slice E A.length I)=y/\y.heap[q]?=some (.cells #[.slice J B.length L,.bool O,.bool N,.bool s,.bool o,.slice D z.length d,Vi R,Vi U,.slice E A.length I] 28)/\y.heap[r]?=some (.cells #[.slice J B.length L,.bool O,.bool N,.bool s,.bool o,.slice D z.length d,Vi R,Vi U,.slice E A.length I] 28)/\ML w.heap.size ⟨.slice J B.length L,O,N,s,o,.slice D z.length d,R,U,.slice E A.length I,B,z,A⟩ y/\y.ownsRow w.heap.size 111 11 (Vs g M.length Y) M.length (DL M)/\Bw w y:=by
  refine⟨_,rfl,?_,?_,?_,?_,?_⟩
  ·iterate 9 refine BJ ?_ ax _ _
   exact hT
  ·exact BK (BK (BK (BK (BK (BK (BK (BK (BK X.Z 0 _) 1 _) 2 _) 3 _) 4 _) 5 _) 6 _) 7 _) 8 _
  ·refine ML.dn ?_ ae
   iterate 9 refine ML.putlt ?_ ay _ _
   exact X.W.ml
  ·refine DT ?_ ae
   iterate 9 refine CK ?_ aw _ _
   exact X.P
  ·iterate 9 refine Below.setCell ?_ az _
   exact ah
 rw[au];have ac:Hid (ML w.heap.size ⟨.slice J B.length L,O,N,s,o,.slice D z.length d,R,U,.slice E A.length I,B,z,A⟩ uy/\uy.ownsRow w.heap.size 111 11 (Vs g M.length Y) M.length (DL M)/\Bw w uy):=⟨My,Py,By⟩
 have BM:=hxy X.bm;refine hK.out _ _ ai (fun _=>?_);clear hK KK au My Py By ah X z0 z1 z2 z3 z4 z5 z6 z7 z8 zf zz ar hT;refine BV ?_;refine Ao 5 ?_;refine wpAnyH_done Ab ?_ _;obtain⟨r0,r1,r2,r3,r4,r5,r6,r7,r8⟩:=q9 ad;have rz:=(Cj.1 ad).1;clear j0 j1 j2 j3 j4 j5 j6 j7 j8 ai ad;go_wp2;refine bodyPost_ret (v:=.tuple #[(Vs g M.length Y),.agg #[.slice J B.length L,.bool O,.bool N,.bool s,.bool o,.slice D z.length d,Vi R,Vi U,.slice E A.length I],Vi fu]) (by simp[results,Tryz.results4,go_sem,r0,r1,r2,r3,r4,r5,r6,r7,r8]) rfl ⟨g,Y,M,⟨.slice J B.length L,O,N,s,o,.slice D z.length d,R,U,.slice E A.length I,B,z,A⟩,fu,rfl,hl,ac.2.1,BM,ac.1,ac.2.2⟩
end Go.Proofs.YtkckomianknjdaaGreat
