import Derived.Test.YtcjnmdgomocpgaaGreatDoorOfSnRun
import Derived.Test.YtcjnmdgomocpgaaGreatDoorSnSeen
import Derived.Test.YtcjnmdgomocpgaaGreatDoorRunSpec
set_option maxHeartbeats 8000000
set_option maxRecDepth 20000
namespace Go.Proofs.YtcjnmdgomocpgaaGreatDoor
open Go.RowKit Go.Deep
variable {F rs0:List Int}{J i k n o r:Nat}{S:Nat->HS}{L:Nat->SV}{V:Nat->VV}{v:Value}{u:World}
theorem ML.putlt{B:Nat}{m:Md}(h:ML B m u)(l:r<B)(j:Nat)(v:Value):ML B m (u.setCell (Va r j) v):=
 have k:∀{e s a:Nat}{b:Value}{c:List Value},u.ownsRow B e s b a c->(u.setCell (Va r j) v).ownsRow B e s b a c:=fun h=>CV h (fun e=>by have:=iJ h e;omega) j v
 ⟨k h.R,k h.H,k h.O,fun x d=>k (h.D x d),h.rr,h.hr⟩
theorem ML.dn{B:Nat}{m:Md}(h:ML B m u)(a:J<=B):ML J m u:=⟨Ke h.R a,Ke h.H a,Ke h.O a,fun x b=>Ke (h.D x b) a,h.rr,h.hr⟩
structure FZ(w1:World)(p:Nat)(ao:Option Addr)(n cap:Nat)(r q:Nat)(m:Md)(u:World):Prop where
 W:DW w1 p ao n cap m u
 Z:u.heap[r]?=some (.cells GQ.a 39)
 Q:u.heap[q]?=some (.cells m.a 39)
 rp:r<p
 wq:w1.heap.size<=q
theorem FZ.set{N:World}{p Y q:Nat}{U:Option Addr}{m:Md}(h:FZ N p U n Y r q m u)(b:Md)(j:Nat)(v:Value)(x:m.a.setIfInBounds j v=b.a)(e:b.vR=m.vR)(l:b.vH=m.vH)(o:b.vO=m.vO)(d:b.rs=m.rs)(c:b.hs=m.hs)(s:b.os=m.os):FZ N p U n Y r q b (u.setCell (Va q j) v):=by
 have k:=h.W.put h.wq h.Q j v;refine⟨⟨k.F,k.K,by rw[e,d];exact k.R,by rw[l,c];exact k.H,by rw[o,s];exact k.O,by rw[c];exact k.D,by rw[d];exact k.rr,by rw[c];exact k.hr,k.pw⟩,?_,?_,h.rp,h.wq⟩
 ·exact Ao h.Z (by have:=h.rp;have:=h.wq;have:=h.W.pw;omega) j v
 ·rw[<-x];exact BG h.Q j v
theorem FZ.cells{N:World}{p Y q:Nat}{U:Option Addr}{m:Md}(h:FZ N p U n Y r q m u):(u.cell? (Va q 0)=some m.vR/\u.cell? (Va q 1)=some (.bool m.z)/\u.cell? (Va q 2)=some (.bool m.c)/\u.cell? (Va q 3)=some (.bool m.hz)/\u.cell? (Va q 4)=some (.bool m.hc)/\u.cell? (Va q 5)=some m.vH/\u.cell? (Va q 6)=some (Vi m.pc)/\u.cell? (Va q 7)=some (Vi m.st)/\u.cell? (Va q 8)=some m.vO)/\(∀i,u.frozen? (Va q i)=false)/\q<u.heap.size:=
 ⟨⟨AJ h.Q 0,AJ h.Q 1,AJ h.Q 2,AJ h.Q 3,AJ h.Q 4,AJ h.Q 5,AJ h.Q 6,AJ h.Q 7,AJ h.Q 8⟩,CP h.Q,(I8.1 h.Q).1⟩
def mR(nH:Nat)(S:Nat->HS)(V:Nat->VV)(w:World)(e:Ending)(w':World):Prop:=
 ∃(ra:Option Addr)(rc:Nat)(rs:List Int)(ha:Option Addr)(hcp:Nat)(hs:List HD),e=.returned (.agg #[.slice ra rs.length rc,.bool false,.bool false,.bool false,.bool false,.slice ha hs.length hcp,Vi 0,Vi 0,.slice none 0 0])/\OH ⟨.slice ra rs.length rc,false,false,false,false,.slice ha hs.length hcp,0,0,.slice none 0 0,rs,hs,[]⟩ nH S V/\ML w.heap.size ⟨.slice ra rs.length rc,false,false,false,false,.slice ha hs.length hcp,0,0,.slice none 0 0,rs,hs,[]⟩ w'/\Below w.heap.size w w'
theorem Jd(A:Option Addr)(n l:Nat)(K cH z:Nat)(S:Nat->HS)(L cR:Nat)(V:Nat->VV)(w:World)(hn:n<=1048600)(hr:I9 w w.heap.size A n)(hS:Ak w K (z*3) (Ur S))(hV:Ak w L (8*6) (vF V))(n8:z<=4)(ar:∀i,i<z->1<=(S i).size/\(S i).size<=4096)(an:∀i,i<8->GV (V i) z):
 Ks 7 #[.slice A n l,.agg #[Vs K z cH,Vs L 8 cR],Vi 0,Vi 0] w (mR z S V w):=by
 have HR:=hxy hr;have HS:=hxy hS;have HV:=hxy hV;clear hr hS hV;go_enter Tryz.func7,Tryz.ntmps7;go_upto_region 1 with fail;obtain⟨w0,I,C,X⟩:∃y,w.alloc (.cells #[Vs K z cH,Vs L 8 cR] 26)=y/\Bw w y/\Cl y w.heap.size [Vs K z cH,Vs L 8 cR]:=⟨_,rfl,Ai,Cl.new⟩
 have ag:w0.heap.size=w.heap.size+1:=by rw[<-I];simp
 rw[I];obtain⟨u0,ab,B,o⟩:∃y,w0.alloc (.cells Zq 39)=y/\Bw w0 y/\y.heap[w0.heap.size]?=some (.cells GQ.a 39):=⟨_,rfl,Ai,Az _ _⟩
 rw[ab];rw[ag]at o;obtain⟨nb,E⟩:=Au w.heap.size;obtain⟨r,aa⟩:=Au (w.heap.size+1);have b0:=C.trans (B.mono C.size);have E0:=hxy (X.below B);have zr:w.heap.size+1<u0.heap.size:=(I8.1 o).1;have Y:I9 u0 u0.heap.size A n:=by
  rcases HR.out with h|⟨b,ah,h1,h2,h3⟩
  ·exact .inl h
  ·exact .inr ⟨b,ah,h1,Ey h2 b0.size,fun i hi=>by obtain⟨v,q1,q2,q3⟩:=h3 i hi;exact⟨v,q1,q2,(b0.cell (p:=Va b (ah+i)) h2).trans q3⟩⟩
 have ap:w.heap.size<=r:=AB;have az:nb<r:=AB;rw[aa]at o zr⊢;have av:=hxy E;rw[E]at E0⊢;have Z0:=hxy o;have B0:=hxy b0;have N:=hxy Y;clear I C X ag ab B o aa Y E b0 HR;go_wp2_with fail;refine(YT A n l u0 AB N).mono ?_;rintro e u1⟨p,rfl,hp,b1,c1⟩;have M:=hxy (B0.trans (b1.mono B0.size));have Z1:=hxy ((b1.block r zr).trans Z0);have E1:=hxy (E0.below b1);have C1:=hxy c1;have rp:r<p:=AB;have aA:=c1.lt;have ak:K≠p:=by have:=HS.lt;omega
 have al:L≠p:=by have:=HV.lt;omega
 have au:=M.size;have O:=hxy (HS.below M HS.lt);have Q:=hxy (HV.below M HV.lt);have d0:=E1.2 0 AX;have d1:=E1.2 1 AX;simp only[KJ,List.getElem?_cons_zero,List.getElem?_cons_succ,Option.getD_some]at d0 d1;have dz:=E1.1;clear b1 c1 Z0 B0 N E0 HS HV;go_wp2_with fail;refine(ME p A n l K cH z S L cR V u1 C1 O Q ak al n8 ar an).mono ?_;rintro e u2⟨m,rfl,D,U⟩;clear d0 d1 dz;obtain⟨u,x,af⟩:=Cf U.R;obtain⟨s,c,ae⟩:=Cf U.H;have hf:=D.h.form;have ai:=hxy D;clear D;obtain⟨vR,gz,gc,ax,aw,vH,pc,st,vO,k,j,os⟩:=m;unfold GQ at hf;dsimp only at hf af ae;injection hf with _ e1 e2 e3 e4 _ e6 e7 e8 _ _ am;subst af ae e1 e2 e3 e4 e6 e7 e8 am;have W2:=hxy U;have Z2:Hid (u2.heap[r]?=some (.cells GQ.a 39)):=Hr Z1 U.F AB;clear U Z1 E1 O Q C1;unfold Md.a;dsimp only;go_upto_region 3 with fail;obtain⟨u3,ac,s3⟩:∃y,u2.alloc (.cells #[.slice u k.length x,.bool false,.bool false,.bool false,.bool false,.slice s j.length c,Vi 0,Vi 0,.slice none 0 0] 39)=y/\FZ u1 p A n l r u2.heap.size ⟨.slice u k.length x,false,false,false,false,.slice s j.length c,0,0,.slice none 0 0,k,j,[]⟩ y:=by
  have b:Bw u2 (u2.alloc (.cells #[.slice u k.length x,.bool false,.bool false,.bool false,.bool false,.slice s j.length c,Vi 0,Vi 0,.slice none 0 0] 39)):=Ai;exact⟨_,rfl,W2.below b,(b.block r (I8.1 Z2).1).trans Z2,Az _ _,rp,W2.F.size⟩
 rw[ac];obtain⟨q,hq⟩:=Au u2.heap.size;rw[hq]at s3⊢;have S3:=hxy s3;clear ac hq s3 W2 Z2;obtain⟨⟨x0,x1,x2,x3,x4,x5,x6,x7,x8⟩,xf,xz⟩:=S3.cells;dsimp only at x0 x1 x2 x3 x4 x5 x6 x7 x8;go_upto_region 7 with fail;obtain⟨u4,ad,s4⟩:∃y,(((u3.setCell (Va q 3) (.bool false)).setCell (Va q 4) (.bool false)).setCell (Va q 1) (.bool false)).setCell (Va q 2) (.bool false)=y/\FZ u1 p A n l r q ⟨.slice u k.length x,false,false,false,false,.slice s j.length c,0,0,.slice none 0 0,k,j,[]⟩ y:=⟨_,rfl,(((S3.set ⟨.slice u k.length x,false,false,false,false,.slice s j.length c,0,0,.slice none 0 0,k,j,[]⟩ 3 _ rfl rfl rfl rfl rfl rfl rfl).set ⟨.slice u k.length x,false,false,false,false,.slice s j.length c,0,0,.slice none 0 0,k,j,[]⟩ 4 _ rfl rfl rfl rfl rfl rfl rfl).set ⟨.slice u k.length x,false,false,false,false,.slice s j.length c,0,0,.slice none 0 0,k,j,[]⟩ 1 _ rfl rfl rfl rfl rfl rfl rfl).set ⟨.slice u k.length x,false,false,false,false,.slice s j.length c,0,0,.slice none 0 0,k,j,[]⟩ 2 _ rfl rfl rfl rfl rfl rfl rfl⟩
 rw[ad];have J:=hxy s4;clear ad s4 S3 x0 x1 x2 x3 x4 x5 x6 x7 x8 xf xz;obtain⟨⟨x0,x1,x2,x3,x4,x5,x6,x7,x8⟩,xf,xz⟩:=J.cells;dsimp only at x0 x1 x2 x3 x4 x5 x6 x7 x8;obtain⟨z0,z1,z2,z3,z4,z5,z6,z7,z8,zf,zz⟩:=z9 J.Z;have ay:q≠r:=by have:=J.wq;omega
 have BL:Hid (Bw w u4):=J.W.F.below M AB AB;have aj:=hxy J.W.ml;have d:r<u1.heap.size:=AB;clear J M;go_wp2;refine mY (.agg #[.slice u k.length x,.bool false,.bool false,.bool false,.bool false,.slice s j.length c,Vi 0,Vi 0,.slice none 0 0]) (by simp[results,Tryz.results7,go_sem,z0,z1,z2,z3,z4,z5,z6,z7,z8]) ⟨u,x,k,s,c,j,rfl,ai,?_,?_⟩
 ·exact(((((((((aj.putlt d _ _).putlt d _ _).putlt d _ _).putlt d _ _).putlt d _ _).putlt d _ _).putlt d _ _).putlt d _ _).putlt d _ _).dn au
 ·(iterate 9 refine Below.setCell ?_ ap _)
  exact BL
theorem Wu(c:List HD):∀(i:Nat),i<c.length->(∀b:Int,(c.flatMap ZU).set (i*3) (.int .u64 b)=(c.set i {c.getD i hd0 with base:=b}).flatMap ZU)/\∀(v:Value)(ds:List Int),(c.flatMap ZU).set (i*3+2) v=(c.set i {c.getD i hd0 with v:=v,ds:=ds}).flatMap ZU:=by
 induction c with
 |nil=>intro i h;simp at h
 |cons a l j=>
  intro i h;cases i with
  |zero=>exact⟨fun b=>rfl,fun v ds=>rfl⟩
  |succ i=>
   obtain⟨d,e⟩:=j i (by simpa using h);refine⟨fun b=>?_,fun v ds=>?_⟩
   ·show(ZU a++l.flatMap ZU).set ((i+1)*3) _=ZU a++(l.set i _).flatMap ZU
    rw[List.set_append,if_neg (by show¬(i+1)*3<3;omega),show(i+1)*3-(ZU a).length=i*3 by show(i+1)*3-3=_;omega,d b];rfl
   ·show(ZU a++l.flatMap ZU).set ((i+1)*3+2) _=ZU a++(l.set i _).flatMap ZU
    rw[List.set_append,if_neg (by show¬(i+1)*3+2<3;omega),show(i+1)*3+2-(ZU a).length=i*3+2 by show(i+1)*3+2-3=_;omega,e v ds];rfl
theorem FW{α:Type}{l:List α}{x y:α}(h:y∈l.set i x):y∈l∨y=x:=(List.mem_or_eq_of_mem_set h)
theorem Cr{α:Type}{l:List α}{j:Nat}{x d:α}(a:i<l.length):(l.set i x).getD j d=if j=i then x else l.getD j d:=by
 rw[KJ,List.getElem?_set];by_cases e:i=j
 ·subst e;rw[if_pos rfl,if_pos a,if_pos rfl];rfl
 ·rw[if_neg e,if_neg (fun q=>e q.symm),KJ]
section
variable{B:Nat}{vR vO:Value}{fz fc fhz fhc:Bool}{g cp:Nat}{pc st:Int}{rs:List Int}{hs:List HD}{os:List (Int×Int)}{u u':World}
theorem Y1{e s E I n':Nat}{D:Value}{d b:List Value}(h:u.ownsRow B e s v n d)(k:u.ownsRow B E I D n' b)(c:u.grownBy u' D.ownBlock)(a:e≠E):u'.ownsRow B e s v n d:=h.kept c (Aj h k a)
theorem ML.setBase(h:ML B ⟨vR,fz,fc,fhz,fhc,Vs g hs.length cp,pc,st,vO,rs,hs,os⟩ u)(e:i<hs.length){b:Int}(l:JL b):ML B ⟨vR,fz,fc,fhz,fhc,Vs g (hs.set i {hs.getD i hd0 with base:=b}).length cp,pc,st,vO,rs,hs.set i {hs.getD i hd0 with base:=b},os⟩ (u.setCell (Va g (i*3)) (.int .u64 b)):=by
 obtain⟨k,d⟩:=h.H.stored (i*3) (.int .u64 b);have j:hs.getD i hd0∈hs:=by rw[KJ,List.getElem?_eq_getElem e];exact List.getElem_mem e
 refine⟨Y1 h.R h.H d Ad,?_,Y1 h.O h.H d Ad,fun x c=>?_,h.rr,fun x c=>?_⟩
 ·show World.ownsRow _ _ _ _ (Vs g (hs.set i _).length cp) (hs.set i _).length _
  rw[<-(Wu hs i e).1 b,List.length_set];exact k
 ·rcases FW c with c|rfl
  ·exact Y1 (h.D x c) h.H d Ad
  ·exact Y1 (h.D (hs.getD i hd0) j) h.H d Ad
 ·rcases FW c with c|rfl
  ·exact h.hr x c
  ·exact⟨l,(h.hr _ j).2⟩
theorem ML.setData(h:ML B ⟨vR,fz,fc,fhz,fhc,Vs g hs.length cp,pc,st,vO,rs,hs,os⟩ u)(c:i<hs.length){ds:List Int}(e:u.ownsRow B 5 1 v ds.length (ds.map (.int .u8 ·)))(j:ds.length<=4100)(l:∀x∈ds,0<=x/\x<=255):ML B ⟨vR,fz,fc,fhz,fhc,Vs g (hs.set i {hs.getD i hd0 with v:=v,ds:=ds}).length cp,pc,st,vO,rs,hs.set i {hs.getD i hd0 with v:=v,ds:=ds},os⟩ (u.setCell (Va g (i*3+2)) v):=by
 obtain⟨d,b⟩:=h.H.stored (i*3+2) v;have k:hs.getD i hd0∈hs:=by rw[KJ,List.getElem?_eq_getElem c];exact List.getElem_mem c
 refine⟨Y1 h.R h.H b Ad,?_,Y1 h.O h.H b Ad,fun x a=>?_,h.rr,fun x a=>?_⟩
 ·show World.ownsRow _ _ _ _ (Vs g (hs.set i _).length cp) (hs.set i _).length _
  rw[<-(Wu hs i c).2 v ds,List.length_set];exact d
 ·rcases FW a with a|rfl
  ·exact Y1 (h.D x a) h.H b Ad
  ·exact Y1 e h.H b Ad
 ·rcases FW a with a|rfl
  ·exact h.hr x a
  ·exact⟨(h.hr _ k).1,j,l⟩
theorem ML.setReg{vH:Value}(h:ML B ⟨Vs g rs.length cp,fz,fc,fhz,fhc,vH,pc,st,vO,rs,hs,os⟩ u){x:Int}(d:JL x):ML B ⟨Vs g (rs.set i x).length cp,fz,fc,fhz,fhc,vH,pc,st,vO,rs.set i x,hs,os⟩ (u.setCell (Va g i) (.int .u64 x)):=by
 obtain⟨c,b⟩:=h.R.stored i (.int .u64 x);refine⟨?_,Y1 h.H h.R b Ad,Y1 h.O h.R b Ad,fun y a=>Y1 (h.D y a) h.R b Ad,fun y a=>?_,h.hr⟩
 ·show World.ownsRow _ _ _ _ (Vs g (rs.set i x).length cp) (rs.set i x).length _
  rw[List.map_set,List.length_set];exact c
 ·rcases FW a with a|rfl
  ·exact h.rr y a
  ·exact d
end
theorem Qo{O:Nat->VV}(e:Db o S J O=true):o<=8/\∀i,i<o->1<=(S i).size/\(S i).size<=4096:=by
 unfold Db GJ at e;simp only[Bool.and_eq_true,decide_eq_true_eq,List.all_eq_true,List.mem_range]at e;exact⟨e.1.1,e.1.2⟩
theorem OX(c:Option Addr)(n d i:Nat)(P:Nat)(w:World)(z:i<1000)(k:I9 w P c n):
 Ks 10 #[.slice c n d,Vi i] w fun e u=>∃x:Int,e=.returned (Vi x)/\0<=x/\x<=255/\u=w:=by
 by_cases j:i<n
 ·obtain⟨b,a,v,rfl,r,s,A⟩:∃b a v,c=some ⟨b,a,none⟩/\0<=v/\v<=255/\w.cell? (Va b (a+i))=some (.int .u8 v):=by
   rcases k with h|⟨b,a,l,y,m⟩
   ·omega
   ·obtain⟨v,o,p,q⟩:=m i j
    exact⟨b,a,v,l,o,p,q⟩
  go_enter Tryz.func10,Tryz.ntmps10;go_wp2;go_ret;exact⟨_,rfl,r,s,rfl⟩
 ·clear k
  go_enter Tryz.func10,Tryz.ntmps10;go_wp2;go_ret;exact⟨_,rfl,AB,AB,rfl⟩
def dM(rs:List Int)(hs:List HD):MV:={R:=rL rs,z:=false,c:=false,hz:=false,hc:=false,nH:=hs.length,Hp:=hL hs,pc:=0,st:=0,nO:=0,K:=kL [],V:=vL []}
theorem uS{I:Option Addr}{rc:Nat}{p:Option Addr}{a:List HD}(h:OH (E8 I rc p n F a) o S V)(x:o<=4)(c:Lf (rL F) a.length (hL a))(d:∀i,i<o->1<=(S i).size/\(S i).size<=4096):(dM F a).Ok:=by
 have s:a.length=o:=h.nh;refine⟨c.reg,show a.length<=8 by omega,fun i l=>?_,c.dat⟩;have b:i<a.length:=l;have m:=(h.h.heap i b).1;have u:=d i AB;have e:=h.h.tp i b;have q:=(c.base i b).1;have j:((dM F a).Hp i).base=(a.getD i hd0).base:=rfl;have k:((dM F a).Hp i).len=(a.getD i hd0).ds.length:=rfl;rw[j,k];dsimp only at m e;have r:0<=(a.getD i hd0).base:=q;exact⟨r,AB,AB,e⟩
theorem uj{I:Option Addr}{rc:Nat}{p:Option Addr}{a:List HD}(h:OH (E8 I rc p n F a) o S V):WI ⟨o,S,V⟩ ⟨Fe V,0,0⟩ (dM F a):=by
 have c:a.length=o:=h.nh;refine⟨c,fun i b=>h.h.heap i (show i<a.length by have:i<o:=b;omega),fun i b=>?_,Or.inl rfl,Or.inl rfl⟩;show CG (fun k=>((dM F a).Hp k).base) (Fe V i) (rL F i);unfold Fe;rw[if_pos b];exact h.rg i b
theorem vM{P:List NV}:∀(k:Nat)(M:MV),Lh M (Dw P k M):=by
 intro k;induction k with
 |zero=>intro M;exact Lh.refl M
 |succ k c=>
  intro M;by_cases h:M.st=0
  ·rw[I5 h]
   refine Lh.trans ?_ (c _);unfold uH stepM;split
   ·exact⟨rfl,fun _=>⟨rfl,rfl,rfl,fun _=>rfl⟩⟩
   ·have a:=pR (MW P M.pc.toNat 0).toNat (MW P M.pc.toNat 1).toNat (MW P M.pc.toNat 2).toNat (MW P M.pc.toNat 3).toNat (MW P M.pc.toNat 5).toNat (MW P M.pc.toNat 4) M (M.pc+1)
    split
    ·rename_i b;rw[b]at a;exact a
    ·rename_i b;rw[b]at a;exact a
  ·rw[show Dw P (k+1) M=M from EJ _ _ _ h];exact Lh.refl M
theorem YV{P:List NV}(b:EW P.length (MW P)=true):∀(k n:Nat)(M:MV),Going M n->Going (Dw P k M) (n+k):=by
 intro k;induction k with
 |zero=>intro n M h;exact h
 |succ k c=>
  intro n M h;by_cases a:M.st=0
  ·rw[I5 a,show n+(k+1)=n+1+k by omega];exact c _ _ (Mv b h)
  ·rw[show Dw P (k+1) M=M from EJ _ _ _ a];exact⟨h.ok,h.pc,Nat.le_trans h.seen AB⟩
theorem uN{e a:Int}(h:Ld o S J V L n=.bad e a):e≠0:=by
 unfold Ld at h;split at h
 ·split at h
  ·exact kP _ _ _ _ BQ _ _ _ _ h
  ·have:=(CR.badI h).1;omega
 ·have:=(CR.badI h).1;omega
theorem mV{F:FS}{r:Int}(h:Ld o S J V L n=.ok F r):Hq L n/\ET ⟨o,S,V⟩ (seg L 0 n) 0 ⟨Fe V,0,0⟩ 0=.ok F r:=by
 unfold Ld at h;split at h
 ·split at h
  ·rename_i a;exact⟨a,h⟩
  ·cases h
 ·cases h
theorem qd(g N j:Nat)(L:Nat->SV)(u:World)(p:N<=9330)(o:Hq L N)(m:Ak u g (N*11) (JW L)):Ks 9 #[Vs g N j] u fun e h=>∃a c,e=.returned (Vs a (Bb L N).length c)/\Ak h a ((Bb L N).length*6) (Kt (MW (Bb L N)))/\Below u.heap.size u h:=by
 refine(Pp g N j L u AB m).mono ?_;rintro e h⟨v,rfl,b,k⟩;obtain⟨l,_⟩:=Ni o;have d:0<(Bb L N).length:=by rw[l,List.length_append];show 0<_+1;omega
 obtain⟨a,c,rfl⟩:=Dy b d;exact⟨a,c,rfl,⟨(b.lt a rfl).2,fun i=>b.frozenAt i,fun i n=>(b.cellAt i AB).trans (nS _ i n)⟩,k⟩
theorem fZ{F:FS}{r:Int}(h:Ld o S J V L n=.ok F r):Db o S J V=true:=by
 unfold Ld at h;split at h
 ·assumption
 ·cases h
structure Vj(S:Nat->HS)(hs hs0 hs2:List HD)(k:Nat):Prop where
 l:hs2.length=hs0.length
 b:∀i,i<k->(hs2.getD i hd0).base=(hs.getD i hd0).base
 d:∀i,i<k->(S i).s=false->(hs2.getD i hd0).ds=(hs.getD i hd0).ds
 w:∀i,(hs2.getD i hd0).wr=(hs0.getD i hd0).wr
 n:∀i,(hs2.getD i hd0).ds.length=(hs0.getD i hd0).ds.length
theorem Vj.start{a hs0:List HD}:Vj S a hs0 hs0 0:=⟨rfl,fun _ h=>absurd h AB,fun _ h=>absurd h AB,fun _=>rfl,fun _=>rfl⟩
theorem Vj.base{c hs0 a:List HD}(h:Vj S c hs0 a k)(m:k<a.length)(o:(S k).s=true):Vj S c hs0 (a.set k {a.getD k hd0 with base:=(c.getD k hd0).base}) (k+1):=by
 refine⟨by rw[List.length_set];exact h.l,fun i j=>?_,fun i j q=>?_,fun i=>?_,fun i=>?_⟩<;>rw[Cr m]
 ·split
  ·rename_i e;rw[e]
  ·exact h.b i AB
 ·split
  ·rename_i e;rw[e,o]at q;cases q
  ·exact h.d i AB q
 ·split
  ·rename_i e;rw[e];exact h.w k
  ·exact h.w i
 ·split
  ·rename_i e;rw[e];exact h.n k
  ·exact h.n i
theorem Vj.both{j hs0 a:List HD}(h:Vj S j hs0 a k)(c:k<a.length)(p:(j.getD k hd0).ds.length=(hs0.getD k hd0).ds.length):Vj S j hs0 ((a.set k {a.getD k hd0 with base:=(j.getD k hd0).base}).set k {(a.set k {a.getD k hd0 with base:=(j.getD k hd0).base}).getD k hd0 with v:=v,ds:=(j.getD k hd0).ds}) (k+1):=by
 have m:k<(a.set k {a.getD k hd0 with base:=(j.getD k hd0).base}).length:=by rw[List.length_set];exact c
 refine⟨by rw[List.length_set,List.length_set];exact h.l,fun i o=>?_,fun i o q=>?_,fun i=>?_,fun i=>?_⟩<;>rw[Cr m]
 ·split
  ·rename_i e;rw[e];show((a.set k _).getD k hd0).base=_;rw[Cr c,if_pos rfl]
  ·rename_i e;rw[Cr c,if_neg e];exact h.b i AB
 ·split
  ·rename_i e;rw[e]
  ·rename_i e;rw[Cr c,if_neg e];exact h.d i AB q
 ·split
  ·rename_i e;rw[e];show((a.set k _).getD k hd0).wr=_;rw[Cr c,if_pos rfl];exact h.w k
  ·rename_i e;rw[Cr c,if_neg e];exact h.w i
 ·split
  ·rename_i e;rw[e];exact p
  ·rename_i e;rw[Cr c,if_neg e];exact h.n i
structure Uc(V:Nat->VV)(rs rs0 rs2:List Int)(k:Nat):Prop where
 l:rs2.length=rs0.length
 e:∀i,i<k->(V i).s=false->rs2.getD i 0=rs.getD i 0
 o:∀i,(V i).s=true->rs2.getD i 0=rs0.getD i 0
theorem Uc.start:Uc V F rs0 rs0 0:=⟨rfl,fun _ h=>absurd h AB,fun _ _=>rfl⟩
theorem Uc.skip{rs2:List Int}(h:Uc V F rs0 rs2 k)(a:(V k).s=true):Uc V F rs0 rs2 (k+1):=by
 refine⟨h.l,fun i b q=>?_,h.o⟩;by_cases e:i=k
 ·rw[e,a]at q;cases q
 ·exact h.e i AB q
theorem Uc.set{rs2:List Int}(h:Uc V F rs0 rs2 k)(a:k<rs2.length)(b:(V k).s=false):Uc V F rs0 (rs2.set k (F.getD k 0)) (k+1):=by
 refine⟨by rw[List.length_set];exact h.l,fun i c q=>?_,fun i q=>?_⟩<;>rw[Cr a]
 ·split
  ·rename_i e;rw[e]
  ·exact h.e i AB q
 ·split
  ·rename_i e;rw[e,b]at q;cases q
  ·exact h.o i q
theorem kg{ra1:Option Addr}{rc1:Nat}{ha1:Option Addr}{hc1:Nat}{rs hs}{ra2:Option Addr}{rc2:Nat}{ha2:Option Addr}{hc2:Nat}{rs0 hs0 rs2 hs2}{c:Nat}(C:∀i,i<8->GV (V i) c)(x:OH (E8 ra1 rc1 ha1 hc1 rs hs) c S V)(y:OH (E8 ra2 rc2 ha2 hc2 rs0 hs0) c S V)(h:Vj S hs hs0 hs2 c)(r:Uc V rs rs0 rs2 8):OH (E8 ra2 rc2 ha2 hc2 rs2 hs2) c S V/\(∀i,i<8->(V i).s=false->rL rs i=rL rs2 i)/\Zm S c (hL hs) (hL hs2)/\∀i,i<c->(S i).s=false->(hL hs i).dat=(hL hs2 i).dat:=by
 have K:hs.length=c:=x.nh;have L:hs0.length=c:=y.nh;have I:=h.l;have u:Qg hs2=Qg hs:=by
  funext i
  show(hs2.getD i hd0).base=(hs.getD i hd0).base;by_cases e:i<c
  ·exact h.b i e
  ·rw[KJ,List.getElem?_eq_none AB,KJ,List.getElem?_eq_none AB]
 have m:∀i,i<c->(hs2.getD i hd0).ds.length=(hs.getD i hd0).ds.length:=fun i a=>by
  have E:=(x.h.heap i (by show i<hs.length;omega)).1;have z:=(y.h.heap i (by show i<hs0.length;omega)).1;have J:=h.n i;dsimp only at E z;omega
 refine⟨⟨⟨rfl,fun i a=>?_,fun i j A D=>?_,fun i a=>?_⟩,by show hs2.length=c;omega,r.l.trans y.nr,fun i a=>?_⟩,fun i a q=>(r.e i a q).symm,fun i a=>⟨(h.b i a).symm,fun q=>?_⟩,fun i a q=>?_⟩
 ·have z:=y.h.heap i (show i<hs0.length by have:i<hs2.length:=a;omega)
  dsimp only at z⊢;rw[h.n i,h.w i];exact z
 ·have B:j<hs2.length:=D
  have k:=x.h.sp i j A (show j<hs.length by omega);dsimp only at k⊢;rw[h.b i AB,h.b j AB,m i AB];exact k
 ·have B:i<hs2.length:=a
  have k:=x.h.tp i (show i<hs.length by omega);dsimp only at k⊢;rw[h.b i AB,m i AB];exact k
 ·show CG (Qg hs2) (V i) (rs2.getD i 0)
  rw[u];by_cases q:(V i).s=false
  ·rw[r.e i a q];exact x.rg i a
  ·have F:(V i).s=true:=by simpa using q
   rw[r.o i F];rcases y.rg i a with k|k
   ·exact Or.inl k
   ·have p:=(kX (C i a)).2 k.1
    exact absurd p q
 ·have e:=h.d i a q
  exact⟨congrArg List.length e.symm,fun j _=>congrArg (fun l=>List.getD l j 0) e.symm⟩
 ·exact congrArg (fun(l:List Int)(j:Nat)=>l.getD j 0) (h.d i a q).symm
theorem lC{ra1:Option Addr}{rc1:Nat}{ha1:Option Addr}{hc1:Nat}{rs hs}{ra2:Option Addr}{rc2:Nat}{ha2:Option Addr}{hc2:Nat}{rs2 hs2}(d:OH (E8 ra1 rc1 ha1 hc1 rs hs) o S V)(h:OH (E8 ra2 rc2 ha2 hc2 rs2 hs2) o S V)(j:o<=4)(n:Lf (rL rs) hs.length (hL hs))(p:Lf (rL rs2) hs2.length (hL hs2))(b:∀i,i<o->1<=(S i).size/\(S i).size<=4096)
 (m:∀i,i<8->(V i).s=false->rL rs i=rL rs2 i)(l:Zm S o (hL hs) (hL hs2))(k:∀i,i<o->(S i).s=false->(hL hs i).dat=(hL hs2 i).dat):Tw ⟨o,S,V⟩ ⟨Fe V,0,0⟩ (dM rs hs) (dM rs2 hs2):=by
 refine⟨uS d j n b,uS h j p b,rfl,rfl,uj d,uj h,⟨fun i a q=>?_,fun e=>absurd (show(0:Int)=1 from e) Ad,fun e=>absurd (show(0:Int)=1 from e) Ad,fun i a=>(l i a).1,k,rfl,fun i a=>absurd (show i<0 from a) AB⟩⟩;have c:(Fe V i).s=false:=q;unfold Fe at c;rw[if_pos a]at c;exact m i a c
theorem jO(x J:Nat)(L:Nat->SV)(N:Nat)(r:Option Addr)(a:List Int)(s:Nat)(q:Option Addr)(b:List HD)(d n B:Nat)(S:Nat->HS)(V:Nat->VV)(k:Nat)(hk:k<=1000)(u:World)(O:Hq L N)(n4:n<=4)(F:∀i,i<n->1<=(S i).size/\(S i).size<=4096)(y:OH (E8 r s q d a b) n S V)(A:ML B (E8 r s q d a b) u)(M:Ak u x ((Bb L N).length*6) (Kt (MW (Bb L N)))):
 Ks 14 #[Vs x (Bb L N).length J,.agg #[.slice r 8 s,.bool false,.bool false,.bool false,.bool false,.slice q n d,Vi 0,Vi 0,.slice none 0 0],Vi k] u fun e I=>∃p,e=.returned (xX p (Dw (Bb L N) k (dM a b)))/\Mem I u.heap.size p (Dw (Bb L N) k (dM a b))/\Below u.heap.size u I:=by
 obtain⟨X,R,U,hg⟩:=ML.g (rs:=a) (hs:=b) (os:=[]) A M;have j:b.length=n:=y.nh;have l:a.length=8:=y.nr;have m:=A.range;have E:=A.small (by show a.length<=8;omega) (by show b.length<=8;omega) (by show 0<=2;omega);have C:=UL y n4 (fun i hi=>(m.base i hi).1) F;obtain⟨Q,hl⟩:=Ni O;have aa:(Bb L N).length<=2000:=by rw[Q,List.length_append];show _+1<=_;omega
 have h:=Qw x (Bb L N).length J (MW (Bb L N)) r s X a.length (rL a) false false false false q d R b.length (hL b) (aL b) (cL b) 0 0 none 0 U 0 (kL []) (vL []) k u AB M E m hg;rw[j,l]at h;refine h.mono ?_;rintro e I⟨v,rfl,Z,o⟩;rw[<-j,<-l]at o;change yM _ _ _ (Jh (Bb L N).length (MW (Bb L N)) a.length (dM a b) k)at o;have Y:Jh (Bb L N).length (MW (Bb L N)) a.length (dM a b) k=some (Dw (Bb L N) k (dM a b)):=by
  unfold Jh;rw[if_pos]
  ·rfl
  ·rw[Uf O,show Et a.length (dM a b).z (dM a b).c (dM a b).hz (dM a b).hc (dM a b).nH (dM a b).Hp (dM a b).pc (dM a b).st (dM a b).nO (dM a b).K=true from C]
   show(true&&true&&(EM k 0 100000&&decide ((0:Nat)<=100000)))=true;simp[EM];omega
 rw[Y]at o;obtain⟨p,rfl,D⟩:=o;exact⟨p,rfl,D,Z⟩
theorem ku(M cH d:Nat)(S:Nat->HS)(bR cR:Nat)(V:Nat->VV)(L:Nat->SV)(N:Nat)(F:FS)(q:Int)(E m:List Int)(n a:List HD)(k:Nat)(B1 B2:Nat)(C D:Pl)(u:World)(n1:1<=d)(n4:d<=4)(hr:Hq L N)(U:ET ⟨d,S,V⟩ (seg L 0 N) 0 ⟨Fe V,0,0⟩ 0=.ok F q)(gd:JD ⟨d,S,V⟩ ⟨Fe V,0,0⟩)(t:Tw ⟨d,S,V⟩ ⟨Fe V,0,0⟩ (dM E n) (dM m a))(hk:k<=1000)(h1:n.length=d)(h2:a.length=d)(X:∀i,i<d->(S i).s=false->(hL n i).len=(hL a i).len)
 (g:Ak u M (d*3) (Ur S))(A:Mem u B1 C (Dw (Bb L N) k (dM E n)))(B:Mem u B2 D (Dw (Bb L N) k (dM m a))):
 Ks 13 #[.agg #[Vs M d cH,Vs bR 8 cR],xX C (Dw (Bb L N) k (dM E n)),xX D (Dw (Bb L N) k (dM m a))] u fun e u'=>e=.returned (.bool true)/\Below u.heap.size u u':=by
 obtain⟨y,h,l,F',eM,eN,Y,I,Z⟩:=Rm (G:=⟨d,S,V⟩) hr gd U t k;have Q:Dw (Bb L N) k (dM E n)=h.at y:=eM;have R:Dw (Bb L N) k (dM m a)=l.at y:=eN;have o:=vM (P:=Bb L N) k (dM E n);have p:=vM (P:=Bb L N) k (dM m a);have no:=(YV (Uf hr) k 0 (dM E n) ⟨t.okM,Int.le_refl _,BQ⟩).seen;rw[Q]at A o no⊢;rw[R]at B p⊢;have a1:(h.at y).nH=d:=o.1.trans h1;have a2:(l.at y).nH=d:=p.1.trans h2;have hO:(l.at y).nO=(h.at y).nO:=Z.nO.symm;have hS:(l.at y).st=(h.at y).st:=by rw[Qi,Qi];exact Y.symm
 have hP:(l.at y).pc=(h.at y).pc:=rfl;obtain⟨b1,q1,e1⟩:=G8 A.heaps AB;obtain⟨b2,q2,e2⟩:=G8 B.heaps AB;unfold xX;have c1:RH u b1 d (h.at y).Hp (fun i=>some ⟨C.blk i,0,none⟩) C.cap:=by
  have x:=A.heaps;rw[e1]at x;have J:=(Fv x).2.2.2;rw[a1]at J;exact⟨J,fun i r=>⟨_,rfl,(Fv (A.data i AB)).2.2.2⟩⟩
 have c2:RH u b2 d (l.at y).Hp (fun i=>some ⟨D.blk i,0,none⟩) D.cap:=by
  have x:=B.heaps;rw[e2]at x;have J:=(Fv x).2.2.2;rw[a2]at J;exact⟨J,fun i r=>⟨_,rfl,(Fv (B.data i AB)).2.2.2⟩⟩
 have o1:Zc u C.aO (h.at y).nO (h.at y).K (h.at y).V:=fun h0=>by
  obtain⟨b,c,e⟩:=G8 A.obs h0;have x:=A.obs;rw[e]at x;have O:C.aO=some ⟨b,0,none⟩:=by injection e
  exact⟨b,O,(Fv x).2.2.2⟩
 have o2:Zc u D.aO (h.at y).nO (l.at y).K (l.at y).V:=fun h0=>by
  obtain⟨b,c,e⟩:=G8 B.obs AB;have x:=B.obs;rw[e]at x;have O:D.aO=some ⟨b,0,none⟩:=by injection e
  have z:=(Fv x).2.2.2;rw[hO]at z;exact⟨b,O,z⟩
 rw[e1,e2,a1,a2,hO,hS,hP];refine LD M cH d S (some ⟨bR,0,none⟩) 8 cR _ _ _ _ _ _ _ _ _ _ _ (h.at y).Hp _ _ _ _ (h.at y).K (h.at y).V _ _ _ _ _ _ _ _ (l.at y).Hp _ _ _ _ (l.at y).K (l.at y).V u n4 ?_ ?_ g c1 c2 (fun i r q=>?_) o1 o2 (fun i r=>Z.ob i r)
 ·omega
 ·rw[Qi];exact I
 ·have r1:((h.at y).Hp i).len=(hL n i).len:=(o.2 i).2.1
  have r2:((l.at y).Hp i).len=(hL a i).len:=(p.2 i).2.1;exact⟨r1.trans ((X i r q).trans r2.symm),fun j _=>congrFun (Z.dt i r q) j⟩
end Go.Proofs.YtcjnmdgomocpgaaGreatDoor
