import Derived.Test.YtcjnmdgomocpgaaGreatDoorOfFu7a
import Derived.Test.YtcjnmdgomocpgaaGreatDoorOfSnAns
set_option maxHeartbeats 16000000
set_option maxRecDepth 20000
namespace Go.Proofs.YtcjnmdgomocpgaaGreatDoor
open Go.RowKit Go.Deep
variable {a:Act}{KK:Act->World->Prop}{R:Array Oper}{Q:Exit->Act->World->Prop}{d:List Value}{j n:Nat}{o:Oper}{E:Prop}{v:Value}{w:World}
theorem Vm(w:World)(B g x:Nat)(b:List SV)(o:w.ownsRow B 117 11 (Vs g b.length x) b.length (Es b))(n:Addr)(m d:Nat)(a:List SV)(F:m=a.length)(E:∀j u,(Es a)[j]?=some u->w.cell? (n.add j)=some u)(L:b.length+a.length<=1048576)(D:B<=w.heap.size):
 ∃c l k,(Builtin.append_ #[27,27] 27 #[Vs g b.length x,.slice (some n) m d]).run Tryz.prog w=.ok (Vs c (b++a).length l) k/\k.ownsRow B 117 11 (Vs c (b++a).length l) (b++a).length (Es (b++a))/\w.grownBy k (some g)/\(c=g∨c=w.heap.size):=by
 subst F;obtain⟨J,z,p,q,r⟩:=info_parts fT;obtain⟨K,k,y,s,A,C,h⟩:=run_append_own_at (P:=Tryz.prog) w B 27 27 117 J _ 11 88 Tryz.underlying27 z p q r rfl Ad _ _ _ o n a.length d (Es a) (Xe a) E (nT a) (by unfold maxLen;omega) AB D;have I:K≠ .slice none 0 0:=fun e=>by
  have:=(C.1 e).1;simp at this
 obtain⟨c,l,rfl⟩:=XR s I;rw[<-List.length_append,<-qP]at s;rw[<-List.length_append]at y;refine⟨c,l,k,y,by simpa using s,A,?_⟩;rcases h with h|h
 ·exact Or.inl (Option.some.inj h)
 ·exact Or.inr (Option.some.inj h)
theorem SI:∀(a:List SV)(k:Nat),Es (a.take k)=(Es a).take (k*11)
 |a,0=>by simp[Es]
 |[],k+1=>by simp[Es]
 |x::l,k+1=>by
  show RJ x++Es (l.take k)=(RJ x++Es l).take ((k+1)*11);rw[SI l k,show(k+1)*11=(RJ x).length+k*11 by show _=11+k*11;omega,List.take_length_add_append]
theorem SE:∀(a:List SV)(k:Nat),Es (a.drop k)=(Es a).drop (k*11)
 |a,0=>by simp
 |[],k+1=>by simp[Es]
 |x::l,k+1=>by
  show Es (l.drop k)=(RJ x++Es l).drop ((k+1)*11);rw[SE l k,show(k+1)*11=(RJ x).length+k*11 by show _=11+k*11;omega,List.drop_length_add_append]
theorem QK{P:Program}{D:Region.Mode}{S:World->Prop}{q i:Nat}{is:List Nat}{y:Array Bool}{j:World}(s x:Operand){t:TypeId}{u v':Value}(k:R[i]?=some o)(n:Region.wanted o (yielded R a.tmps)=true)
 (c:o.op=.call {callee:=.builtin .append,args:=#[s,x],argTypes:=#[t,t]})(m:a.eval s=v)(p:a.eval x=u)(l:(Builtin.append_ #[t,t] o.type #[v,u]).run P w=.ok v' j)(e:S j)(h:S j->wpAnyH P D R Q S q (y.setIfInBounds i true) (a.put o.dst v') j)(b:AllReadyH P D R Q S q y a w is):AllReadyH P D R Q S q y a w (i::is):=
 AllReadyH.cons k (fun r d=>by
  rw[if_pos n];unfold Oper.wp execOp;simp only[c,resolve,invoke,builtin,Sem.run_bind,Sem.run_pure,Result.andThen_ok,List.map_toArray,List.map_cons,List.map_nil,m,p,l];exact d _ _ e h) b
theorem jC{B e g c k:Nat}(h:w.ownsRow B e 11 (Vs g n c) n d)(r:k<=n):w.ownsRow B e 11 (Vs g k c) k (d.take (k*11)):=by
 have m:k*11<=n*11:=Nat.mul_le_mul_right _ r;rcases h.2 with⟨a,_⟩|⟨x,o,b,a,p,q,s,j,l,u⟩
 ·cases a
 ·simp only[Value.slice.injEq,Option.some.injEq,Addr.mk.injEq,and_true,true_and]at a
  obtain⟨rfl,rfl⟩:=a;exact⟨by rw[List.length_take,h.1];omega,.inr ⟨g,c,b,rfl,p,q,AB,j,l,by rw[<-u,List.take_take,Nat.min_eq_left m]⟩⟩
theorem Ye(x:Int)(m:j<11):∀(n:List SV)(i:Nat),∃c:List SV,c.length=n.length/\(Es n).set (i*11+j) (Vi x)=Es c
 |[],i=>⟨[],rfl,by simp[Es]⟩
 |a::l,0=>by
  have e:∃s,(RJ a).set j (Vi x)=RJ s:=by
   match j,m with
   |0,_=>exact⟨{a with k:=x},rfl⟩
   |1,_=>exact⟨{a with op:=x},rfl⟩
   |2,_=>exact⟨{a with d:=x},rfl⟩
   |3,_=>exact⟨{a with a:=x},rfl⟩
   |4,_=>exact⟨{a with b:=x},rfl⟩
   |5,_=>exact⟨{a with imm:=x},rfl⟩
   |6,_=>exact⟨{a with h:=x},rfl⟩
   |7,_=>exact⟨{a with cond:=x},rfl⟩
   |8,_=>exact⟨{a with thn:=x},rfl⟩
   |9,_=>exact⟨{a with els:=x},rfl⟩
   |10,_=>exact⟨{a with proc:=x},rfl⟩
  obtain⟨s,q⟩:=e;refine⟨s::l,rfl,?_⟩;show(RJ a++Es l).set (0*11+j) _=RJ s++Es l;rw[List.set_append,if_pos (by show 0*11+j<11;omega),show 0*11+j=j by omega,q]
 |a::l,i+1=>by
  obtain⟨c,o,p⟩:=Ye x m l i;refine⟨a::c,by simp[o],?_⟩;show(RJ a++Es l).set ((i+1)*11+j) _=RJ a++Es c;rw[List.set_append,if_neg (by show¬(i+1)*11+j<11;omega),show(i+1)*11+j-(RJ a).length=i*11+j by show(i+1)*11+j-11=_;omega,p]
structure TH(w:World)(p:Nat)(ao:Option Addr)(n cap g c m:Nat)(u:World):Prop where
 F:Fw p w u
 K:CJ u p ao n cap
 lp:p<w.heap.size
 row:∃xs:List SV,xs.length=m/\u.ownsRow w.heap.size 117 11 (Vs g m c) m (Es xs)
section
variable{w:World}{p:Nat}{ao:Option Addr}{n cap g c m:Nat}{u u':World}
theorem TH.fw(h:TH w p ao n cap g c m u)(f:Fw p u u')(k:CJ u' p ao n cap):TH w p ao n cap g c m u':=by
 obtain⟨a,e,r⟩:=h.row;exact⟨h.F.trans f,k,h.lp,a,e,Eb r f h.lp⟩
theorem TH.put(h:TH w p ao n cap g c m u)(i:Nat)(k:j<11)(x:Int):TH w p ao n cap g c m (u.setCell (Va g (i*11+j)) (Vi x)):=by
 obtain⟨l,e,r⟩:=h.row;obtain⟨o,b,d⟩:=Ye x k l i;have a:=Hz r (q:=g) rfl;have s:=h.lp;refine⟨h.F.put a _ _,h.K.put AB _ _,h.lp,o,b.trans e,?_⟩;rw[<-d];exact(r.stored _ _).1
theorem TH.facts(h:TH w p ao n cap g c m u):g<u.heap.size/\(∀j,u.frozen? (Va g j)=false)/\m<=c/\w.heap.size<=g:=by
 obtain⟨a,e,r⟩:=h.row;exact⟨WB r rfl,fun j=>r.frozenAt j,Uv r,Hz r rfl⟩
theorem TH.kind(h:TH w p ao n cap g c m u){i:Nat}(d:i<m)(a:j<11):∃x:Int,u.cell? (Va g (i*11+j))=some (Vi x):=by
 obtain⟨b,e,r⟩:=h.row;rw[r.cellAt (i*11+j) AB,XF b sv0 (i*11+j) AB];unfold JW;rw[show(i*11+j)/11=i by omega,show(i*11+j)%11=j by omega];match j,a with
 |0,_|1,_|2,_|3,_|4,_|5,_|6,_|7,_|8,_|9,_|10,_=>exact⟨_,rfl⟩
theorem TH.ans(h:TH w p ao n cap g c m u){q:Nat}(a:m<=q):yj q w p ao n cap (.returned (Vs g m c)) u:=by
 obtain⟨b,rfl,r⟩:=h.row;exact⟨g,c,b,rfl,a,r,h.F,h.K⟩
end
theorem QB(p:Nat)(J:Option Addr)(n r:Nat)(gL cL:Nat)(M:List SV)(B:Nat)(w:World)(hc:CJ w p J n r)(hL:w.ownsRow B 117 11 (Vs gL M.length cL) M.length (Es M))(hl:M.length<=9330):
 Ks 19 #[Vq p,Vs gL M.length cL] w (yj 9330 w p J n r):=by
 have HC:=hxy hc;have HL:=hxy hL;have lp:=hc.lt;have lg:=WB hL rfl;clear hc hL;go_enter Tryz.func19,Tryz.ntmps19;obtain⟨y0,ab,X,o0⟩:∃y,w.alloc (.cells #[] 117)=y/\Bw w y/\y.ownsRow w.heap.size 117 11 (Vs w.heap.size ([]:List SV).length 0) ([]:List SV).length (Es []):=⟨_,rfl,Ai,World.ownsRow_lit w #[] 0 BQ (by unfold maxLen;omega) rfl⟩
 obtain⟨g,c,y1,l,o1,R,_⟩:=Vm y0 w.heap.size w.heap.size 0 [] o0 ⟨gL,0,none⟩ M.length cL M rfl (fun j u hj=>by
  have O:=(List.getElem?_eq_some_iff.1 hj).1;rw[Xe]at O;rw[Addr.add_lit,Nat.zero_add,X.cell (p:=Va gL j) lg,HL.cellAt j AB,hj]) (by simp;omega) X.size
 have b1:Bw w y1:=X.trans (BJ.grown R X.size (by intro k N;have e:=Option.some.inj N;omega));obtain⟨m,hm⟩:=Au M.length;simp only[List.nil_append,List.length_nil,hm]at l o1;have X1:Hid (TH w p J n r g c m y1):=⟨.of_below b1,HC.below b1,lp,M,hm,o1⟩
 rw[hm]at hl;rw[hm];rw[<-ab]at l;clear ab X o0 o1 R b1 HC HL lg hm;by_cases h0:m=0
 ·subst h0
  go_wp2_with(first|(at_builtin;refine FO rfl _ _ 27 rfl rfl rfl l ?_));go_ret;exact X1.ans AB
 have ad:¬((m:Int)=0):=AB;have ae:(1:Int)<=m:=AB;go_wp2_with(first|(at_builtin;refine FO rfl _ _ 27 rfl rfl rfl l ?_));clear l ad h0;refine(Af p J n r m _ ae X1.K).mono ?_;rintro e y2⟨x,rfl,x0,xm,f,k⟩;have X2:=hxy (X1.fw f k);clear f k X1;obtain⟨i,rfl⟩:∃i:Nat,x=(i:Int):=⟨x.toNat,AB⟩
 have E:i<m:=AB;clear x0 xm;go_wp2_with fail;refine(Af p J n r 6 _ AB X2.K).mono ?_;rintro e y3⟨k,rfl,k0,k6,f,I⟩;have s:=hxy (X2.fw f I);clear f I X2;obtain⟨kd,Y⟩:=s.kind E (j:=0) AB;rw[Nat.add_zero]at Y;have D:=s.facts.1;have ac:(i:Int)<m:=AB;by_cases hA:k<4/\kd=1
 ·obtain⟨N,rfl⟩:=hA
  go_wp2_with fail;refine(KS p J n r 1 28 _ AB AB AB s.K).mono ?_;rintro e y4⟨z,rfl,_,f,I⟩;have A:=hxy (s.fw f I);clear f I s Y D;obtain⟨D,Z,_,_⟩:=A.facts;obtain⟨_,d1⟩:=A.kind E (j:=1) AB;obtain⟨_,d2⟩:=A.kind E (j:=2) AB;obtain⟨_,d3⟩:=A.kind E (j:=3) AB;obtain⟨_,d4⟩:=A.kind E (j:=4) AB;obtain⟨_,d5⟩:=A.kind E (j:=5) AB;obtain⟨_,d6⟩:=A.kind E (j:=6) AB;unfold IV.c;go_wp2_with fail;go_ret;exact((((((A.put i (j:=1) AB z.o).put i (j:=2) AB z.d).put i (j:=3) AB z.a).put i (j:=4) AB z.b).put i (j:=5) AB z.i).put i (j:=6) AB z.h).ans AB
 by_cases hB:k=4
 ·subst hB
  obtain⟨L,af,r3⟩:=s.row;have U:=hxy af;have R3:Hid (y3.drew.ownsRow w.heap.size 117 11 (Vs g m c) m (Es L)):=BM r3 BJ.drew;have al:=s.facts.2.2.1;have ah:i<=c:=AB;obtain⟨j,hj⟩:∃j:Nat,i+1=j:=⟨_,rfl⟩
  have hw:IntKind.i64.wrap ((i:Int)+1)=(j:Int):=by rw[IntKind.wrap_i64]<;>omega
  have aj:(j:Int)<=m:=AB;have ai:(0:Int)<=j:=AB;obtain⟨o,ho,aa⟩:∃o,(if c=j then(some ⟨g,0,none⟩:Option Addr)else some ⟨g,j*11,none⟩)=some ⟨g,o,none⟩/\(j<m->o=j*11):=by
   by_cases h:c=j
   ·exact⟨0,if_pos h,fun h'=>by omega⟩
   ·exact⟨j*11,if_neg h,fun _=>rfl⟩
  have HO:=hxy aa;have HJ:=hxy hj;have HI:=hxy E;clear aa hj Y hA E ac k0 k6;go_upto_region 9 with fail;refine wp_region_held_drew (S:=fun _=>True) AV trivial (fun _=>?_);refine EX [0,1,2,3,4,5,6] ?_;have C:(L.take i).length=i:=by have:=U.out;have:=HI.out;rw[List.length_take];omega
  have r4:y3.drew.ownsRow w.heap.size 117 11 (Vs g (L.take i).length c) (L.take i).length (Es (L.take i)):=by rw[SI,C];exact jC R3 (by have:=HI.out;omega)
  obtain⟨g2,c2,y4,l,o4,R,_⟩:=Vm y3.drew w.heap.size g c (L.take i) r4 ⟨g,o,none⟩ (m-j) (c-j) (L.drop j) (by rw[List.length_drop,U.out]) (fun q u hq=>by
   have O:=(List.getElem?_eq_some_iff.1 hq).1;rw[Xe,List.length_drop,U.out]at O;rw[Addr.add_lit,HO.out AB,R3.cellAt (j*11+q) AB];rw[SE,List.getElem?_drop]at hq;exact hq) (by rw[C,List.length_drop,U.out];have:=HI.out;omega) (by have:=s.F.size;rw[World.size_drew];exact this)
  have Q:(L.take i++L.drop j).length=m-1:=by rw[List.length_append,C,List.length_drop,U.out];have:=HJ.out;have:=HI.out;omega
  have A:Hid (TH w p J n r g2 c2 (m-1) y4):=by
   have ag:=s.facts.2.2.2;have k4:Fw p w y4:=(s.F.trans (.of_below BJ.drew)).grown R (fun k N=>by have e:=Option.some.inj N;omega);have lp:=s.lp;refine⟨k4,(s.K.below BJ.drew).grown R (fun k N=>by have e:=Option.some.inj N;omega),lp,_,Q,by rw[<-Q];exact o4⟩
  rw[C,Q]at l;refine wpAnyH_ready (rs:=[7]) AV AX ?_;refine QK (.tmp 41) (.tmp 45) rfl AV rfl rfl rfl l trivial (fun _=>?_) AllReadyH.nil;refine Cn ?_;refine AU 8 ?_;refine wpAnyH_done AV ?_ _;clear l r4 o4 R;go_wp2_with fail;go_ret;exact A.ans AB
 have am:(decide (k<4)&&(kd==1))=false:=by
  by_cases h:k<4
  ·have:¬kd=1:=fun e=>hA ⟨h,e⟩
   simp[this]
  ·simp[h]
 by_cases N:k<4
 ·have ak:¬kd=1:=fun e=>hA ⟨N,e⟩
  go_wp2_with fail;refine(Af p J n r 6 _ AB s.K).mono ?_;rintro e y4⟨z,rfl,_,_,f,I⟩;have A:=hxy (s.fw f I);clear f I s Y D;obtain⟨D,Z,_,_⟩:=A.facts;obtain⟨_,d1⟩:=A.kind E (j:=7) AB;go_wp2_with fail;go_ret;exact(A.put i (j:=7) AB z).ans AB
 ·go_wp2_with fail
  refine(Af p J n r 6 _ AB s.K).mono ?_;rintro e y4⟨z,rfl,_,_,f,I⟩;have A:=hxy (s.fw f I);clear f I s Y D;obtain⟨D,Z,_,_⟩:=A.facts;obtain⟨_,d1⟩:=A.kind E (j:=7) AB;go_wp2_with fail;go_ret;exact(A.put i (j:=7) AB z).ans AB
abbrev IU(l:List Int):List Value:=l.map (.int .u8 ·)
theorem Rt{p:Nat}{U:Option Addr}(h:I9 w p U n):∃d:List Int,d.length=n/\(∀x∈d,0<=x/\x<=255)/\(n=0∨∃b c,U=some ⟨b,c,none⟩/\b<p/\∀j u,(IU d)[j]?=some u->w.cell? (Va b (c+j))=some u):=by
 rcases h with h|⟨b,c,y,z,A⟩
 ·exact⟨[],by simp[h],AX,Or.inl h⟩
 ·have e:∀m,m<=n->∃d:List Int,d.length=m/\(∀x∈d,0<=x/\x<=255)/\∀j u,(IU d)[j]?=some u->w.cell? (Va b (c+j))=some u:=by
   intro m;induction m with
   |zero=>intro _;exact⟨[],rfl,AX,fun j u q=>by simp at q⟩
   |succ m D=>
    intro J;obtain⟨d,l,o,r⟩:=D AB;obtain⟨v,E,F,I⟩:=A m AB;refine⟨d++[v],by simp[l],fun x C=>?_,fun j u q=>?_⟩
    ·rcases List.mem_append.1 C with k|k
     ·exact o x k
     ·rw[List.mem_singleton.1 k];exact⟨E,F⟩
    ·rw[IU,List.map_append,List.getElem?_append]at q
     split at q
     ·exact r j u q
     ·rename_i B
      rw[List.length_map,l]at q B;have s:j=m:=by
       by_cases k:j-m<1
       ·omega
       ·rw[List.getElem?_eq_none (by simp;omega)]at q;cases q
      subst s;rw[Nat.sub_self]at q;rw[I];exact q
  obtain⟨d,l,o,r⟩:=e n BQ;exact⟨d,l,o,Or.inr ⟨b,c,y,z,r⟩⟩
theorem jV(l:List Int):∀u∈IU l,u.oneCell'=true:=by
 intro u h;obtain⟨x,_,rfl⟩:=List.mem_map.1 h;rfl
theorem lm(w:World)(B:Nat)(v:Value)(n:Nat)(C:List Value)(o:w.ownsRow B 5 1 v n C)(p:Option Addr)(m c:Nat)(d:List Int)(z:d.length=m)(E:m=0∨∃b a,p=some ⟨b,a,none⟩/\∀j u,(IU d)[j]?=some u->w.cell? (Va b (a+j))=some u)(U:n+m<=2000000)(O:B<=w.heap.size):
 ∃e l,(Builtin.append_ #[22,22] 22 #[v,.slice p m c]).run Tryz.prog w=.ok e l/\l.ownsRow B 5 1 e (n+m) (C++IU d)/\w.grownBy l v.ownBlock/\(e.ownBlock=v.ownBlock∨e.ownBlock=some w.heap.size):=by
 obtain⟨S,r,s,x,y⟩:=info_parts RU;cases p with
 |none=>
  have J:m=0:=by
   rcases E with h|⟨_,_,h,_⟩
   ·exact h
   ·cases h
  subst J;have R:d=[]:=List.length_eq_zero_iff.1 z;subst R;refine⟨v,w,?_,by simpa[IU]using o,⟨rfl,rfl,rfl,BQ,fun _ _ _=>rfl⟩,Or.inl rfl⟩;rcases o.2 with⟨rfl,rfl⟩|⟨g,F,I,rfl,_,_,A,_⟩
  ·simp[Builtin.append_,run_underlying Tryz.underlying22,sizeOf,typeInfo,r,Builtin.lenOf,Builtin.firstCells]
  ·simp[Builtin.append_,run_underlying Tryz.underlying22,sizeOf,typeInfo,r,Builtin.lenOf,Builtin.firstCells,A,storeCells]
 |some D=>
  have Q:∀j u,(IU d)[j]?=some u->w.cell? (D.add j)=some u:=fun j u q=>by
   rcases E with h|⟨b,a,h,k⟩
   ·subst h;rw[List.length_eq_zero_iff.1 z]at q;simp[IU]at q
   ·obtain rfl:=Option.some.inj h;rw[Addr.add_lit];exact k j u q
  obtain⟨e,l,K,L,M,_,N⟩:=run_append_own_at (P:=Tryz.prog) w B 22 22 5 S _ 1 1 Tryz.underlying22 r s x y rfl Ad v n C o D m c (IU d) (by simp[IU,z]) Q (jV d) (by unfold maxLen;omega) AB O;exact⟨e,l,K,L,M,N⟩
theorem U0{u:World}{B:Nat}{D:List Int}(h:u.ownsRow B 5 1 v n d)(e:d=IU D)(j:∀x∈D,0<=x/\x<=255)(m:0<n):∃b c,v=Vs b n c/\I9 u u.heap.size (some ⟨b,0,none⟩) n:=by
 obtain⟨b,c,rfl⟩:=G8 h m;refine⟨b,c,rfl,.inr ⟨b,0,rfl,(h.lt b rfl).2,fun i o=>?_⟩⟩;have l:d.length=n*1:=h.1;have a:i<D.length:=by rw[e,IU,List.length_map]at l;omega
 have k:=h.cellAt i AB;rw[e,IU,List.getElem?_map,List.getElem?_eq_getElem a]at k;exact⟨D[i],(j _ (List.getElem_mem a)).1,(j _ (List.getElem_mem a)).2,by rw[Nat.zero_add];exact k⟩
structure Ev(u:World)(oR:Option (Value×Nat×List Value))(o6 oQ:Option Nat)(t:World):Prop where
 B:Below u.heap.size u t
 R:∀x,oR=some x->t.ownsRow u.heap.size 5 1 x.1 x.2.1 x.2.2/\∀b,o6=some b->x.1.ownBlock≠some b
 E:∀b,o6=some b->t.heap[b]?=some (.cells #[.int .u8 1,.int .u8 2,.int .u8 3,.int .u8 4,.int .u8 5,.int .u8 6,.int .u8 7,.int .u8 8] 5)
 Z:∀q,oQ=some q->u.heap.size<=q/\t.heap[q]?=some (.cells GQ.a 39)
section
variable{u t t':World}{oR:Option (Value×Nat×List Value)}{o6 oQ:Option Nat}
theorem Ev.below(h:Ev u oR o6 oQ t)(b:Below t.heap.size t t'):Ev u oR o6 oQ t':=
 ⟨h.B.trans (b.mono h.B.size),fun x e=>⟨BM (h.R x e).1 b,(h.R x e).2⟩,fun x e=>Ac (h.E x e) b,fun q e=>⟨(h.Z q e).1,Ac (h.Z q e).2 b⟩⟩
theorem Ev.start:Ev u none none none u.drew:=⟨BJ.drew,fun _ e=>by(cases e),fun _ e=>by(cases e),fun _ e=>by(cases e)⟩
theorem Ev.a0(h:Ev u none o6 oQ t):Ev u (some (Vs t.heap.size 0 0,0,[])) o6 oQ (t.alloc (.cells #[] 5)):=by
 have k:=h.below (BJ.alloc BQ (.cells #[] 5));refine⟨k.B,fun x e=>?_,k.E,k.Z⟩;obtain rfl:=Option.some.inj e;refine⟨World.ownsRow_lit t #[] 0 h.B.size Ad rfl,fun b a q=>?_⟩;have c:=Bp (h.E b a);have d:t.heap.size=b:=Option.some.inj q;omega
theorem Ev.a3(h:Ev u oR none oQ t):Ev u oR (some t.heap.size) oQ (t.alloc (.cells #[.int .u8 1,.int .u8 2,.int .u8 3,.int .u8 4,.int .u8 5,.int .u8 6,.int .u8 7,.int .u8 8] 5)):=by
 have k:=h.below (BJ.alloc BQ (.cells #[.int .u8 1,.int .u8 2,.int .u8 3,.int .u8 4,.int .u8 5,.int .u8 6,.int .u8 7,.int .u8 8] 5));refine⟨k.B,fun x e=>⟨(k.R x e).1,fun b a q=>?_⟩,fun b e=>?_,k.Z⟩
 ·obtain rfl:=Option.some.inj a
  have:=((h.R x e).1.lt _ q).2;omega
 ·obtain rfl:=Option.some.inj e
  exact Az _ _
theorem Ev.a7(h:Ev u oR o6 none t):Ev u oR o6 (some t.heap.size) (t.alloc (.cells Zq 39)):=by
 have k:=h.below (BJ.alloc BQ (.cells Zq 39));refine⟨k.B,k.R,k.E,fun b e=>?_⟩;obtain rfl:=Option.some.inj e;exact⟨h.B.size,Az _ _⟩
theorem Ev.app(h:Ev u (some (v,n,d)) o6 oQ t)(s:Option Addr)(m c:Nat)(p:List Int)(I:p.length=m)(J:m=0∨∃b k,s=some ⟨b,k,none⟩/\∀j u,(IU p)[j]?=some u->t.cell? (Va b (k+j))=some u)(F:n+m<=2000000):
 ∃o l,(Builtin.append_ #[22,22] 22 #[v,.slice s m c]).run Tryz.prog t=.ok o l/\Ev u (some (o,n+m,d++IU p)) o6 oQ l:=by
 obtain⟨r,A⟩:=h.R _ rfl;obtain⟨o,l,C,D,y,a⟩:=lm t u.heap.size v n d r s m c p I J F h.B.size;refine⟨o,l,C,h.B.grown y h.B.size (fun g e=>(r.lt g e).1),fun x e=>?_,fun b e=>?_,fun q e=>⟨(h.Z q e).1,?_⟩⟩
 ·obtain rfl:=Option.some.inj e
  refine⟨D,fun b z q=>?_⟩;rcases a with a|a
  ·exact A b z (a.symm.trans q)
  ·have K:=Bp (h.E b z)
   have L:t.heap.size=b:=Option.some.inj (a.symm.trans q);omega
 ·exact Be (h.E b e) y (A b e)
 ·exact Be (h.Z q e).2 y (Ar (h.Z q e).2 r Ad)
theorem Ev.src{b:Nat}(h:Ev u oR (some b) oQ t):∀j x,(IU [1,2,3,4,5,6,7,8])[j]?=some x->t.cell? (Va b (0+j))=some x:=fun j x q=>by
 rw[Nat.zero_add];exact(AJ (h.E b rfl) j).trans (by simpa[IU]using q)
theorem Ev.step(h:Ev u (some (v,n,d)) o6 oQ t)(s x:Operand)(l:Option Addr)(m c:Nat)(k:List Int)(D:k.length=m)(F:m=0∨∃b e,l=some ⟨b,e,none⟩/\∀j u,(IU k)[j]?=some u->t.cell? (Va b (e+j))=some u)(C:n+m<=2000000)
 (J:Region.wanted o (yielded R a.tmps)=true)(p:o.op=.call {callee:=.builtin .append,args:=#[s,x],argTypes:=#[22,22]})(I:o.type=22)(B:a.eval s=v)(K:a.eval x=.slice l m c)(A:∀r q,Ev u (some (r,n+m,d++IU k)) o6 oQ q->KK (a.put o.dst r) q):
 if Region.wanted o (yielded R a.tmps)=true then Oper.wp Tryz.prog o a t KK Q else E:=by
 obtain⟨r,q,y,z⟩:=h.app l m c k D F C;rw[if_pos J];unfold Oper.wp execOp;simp only[p,I,resolve,invoke,builtin,Sem.run_bind,Sem.run_pure,Result.andThen_ok,List.map_toArray,List.map_cons,List.map_nil,B,K,y];exact A _ _ z
theorem Ev.st0(h:Ev u none o6 oQ t)
 (j:Region.wanted o (yielded R a.tmps)=true)(c:o.op=.buildSlice 22 0 #[])(e:∀b d,Ev u (some (Vs b 0 0,0,[])) o6 oQ d->KK (a.put o.dst (Vs b 0 0)) d):
 if Region.wanted o (yielded R a.tmps)=true then Oper.wp Tryz.prog o a t KK Q else E:=by
 rw[if_pos j];unfold Oper.wp execOp;simp only[c];go_simp;exact e _ _ h.a0
theorem Ev.st3(h:Ev u oR none oQ t)
 (j:Region.wanted o (yielded R a.tmps)=true)(c:o.op=.buildSlice 22 8 #[(0,.const (.int .u8 1)),(1,.const (.int .u8 2)),(2,.const (.int .u8 3)),(3,.const (.int .u8 4)),(4,.const (.int .u8 5)),(5,.const (.int .u8 6)),(6,.const (.int .u8 7)),(7,.const (.int .u8 8))])(e:∀b d,Ev u oR (some b) oQ d->KK (a.put o.dst (Vs b 8 8)) d):
 if Region.wanted o (yielded R a.tmps)=true then Oper.wp Tryz.prog o a t KK Q else E:=by
 rw[if_pos j];unfold Oper.wp execOp;simp only[c];go_simp;exact e _ _ h.a3
theorem Ev.st7(h:Ev u oR o6 none t)
 (j:Region.wanted o (yielded R a.tmps)=true)(c:o.op=.alloc 39)(e:∀b d,Ev u oR o6 (some b) d->Below t.heap.size t d->KK (a.put o.dst (Vq b)) d):
 if Region.wanted o (yielded R a.tmps)=true then Oper.wp Tryz.prog o a t KK Q else E:=by
 rw[if_pos j];unfold Oper.wp execOp;simp only[c];go_simp;exact e _ _ h.a7 Ai
theorem lM{x y z v:Operand}{ops:Array Oper}{v1 M D C:Value}{T:Array TypeId}
 (q:Region.wanted o (yielded ops a.tmps)=true)(c:o.op=.call {callee:=.value (.func 7),args:=#[x,y,z,v],argTypes:=T})(d:a.eval x=v1)(h:a.eval y=M)(j:a.eval z=D)(l:a.eval v=C){R:Ending->World->Prop}(n:Ks 7 #[v1,M,D,C] t R)(m:∀e b,R e b->∃r,e=.returned r/\KK (a.put o.dst r) b):
 if Region.wanted o (yielded ops a.tmps)=true then Oper.wp Tryz.prog o a t KK Q else E:=by
 rw[if_pos q];unfold Oper.wp execOp;simp only[c,resolve,invoke,Sem.run_bind,List.map_toArray,List.map_cons,List.map_nil,d,h,j,l];go_simp;refine n.mono ?_;rintro e b p;obtain⟨r,rfl,k⟩:=m e b p;exact k
end
theorem Xh{D:List Int}:[]++IU D++IU [1,2,3,4,5,6,7,8]=IU (D++[1,2,3,4,5,6,7,8]):=by simp[IU]
theorem Ev.st6{u t:World}{o6 oQ:Option Nat}{ys:List Int}{A M nH:Nat}{S:Nat->HS}{D O:Nat}{V:Nat->VV}(h:Ev u (some (v,n,d)) o6 oQ t)(hn:0<n)(s:n<=1048600)(he:d=IU ys)(hr:∀x∈ys,0<=x/\x<=255)(Y:Ak t A (nH*3) (Ur S))(Z:Ak t D (8*6) (vF V))(n4:nH<=4)(C:∀i,i<nH->1<=(S i).size/\(S i).size<=4096)(r:∀i,i<8->GV (V i) nH){x y:Operand}{ops:Array Oper}{T:Array TypeId}
 (hw:Region.wanted o (yielded ops a.tmps)=true)(z:o.op=.call {callee:=.value (.func 7),args:=#[x,y,.const (Vi 0),.const (Vi 0)],argTypes:=T})(N:a.eval x=v)(U:a.eval y=.agg #[Vs A nH M,Vs D 8 O])
 (X:∀(j:Option Addr)(k:Nat)(b:Option Addr)(c:Nat)(l:List Int)(hs0:List HD)(m:World),OH (E8 j k b c l hs0) nH S V->ML u.heap.size (E8 j k b c l hs0) m->Ev u (some (v,n,d)) o6 oQ m->KK (a.put o.dst (.agg #[.slice j 8 k,.bool false,.bool false,.bool false,.bool false,.slice b nH c,Vi 0,Vi 0,.slice none 0 0])) m):
 if Region.wanted o (yielded ops a.tmps)=true then Oper.wp Tryz.prog o a t KK Q else E:=by
 obtain⟨F,J,K,p⟩:=U0 (h.R _ rfl).1 he hr hn;refine lM hw z (N.trans K) U rfl rfl (Jd (some ⟨F,0,none⟩) n J A M nH S D O V t s p Y Z n4 C r) ?_;rintro e m⟨j,k,l,b,c,hs0,rfl,q,L,I⟩;refine⟨_,rfl,?_⟩;rw[show l.length=8 from q.nr,show hs0.length=nH from q.nh];exact X j k b c l hs0 m q (L.dn h.B.size) (h.below I)
end Go.Proofs.YtcjnmdgomocpgaaGreatDoor
