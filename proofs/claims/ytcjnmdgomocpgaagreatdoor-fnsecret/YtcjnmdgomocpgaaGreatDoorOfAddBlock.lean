import Derived.Test.YtcjnmdgomocpgaaGreatDoorOfUnitMeasure
import Derived.Laws.AppendOwnNone
set_option maxHeartbeats 8000000
set_option maxRecDepth 20000
namespace Go.Proofs.YtcjnmdgomocpgaaGreatDoor
open Go.RowKit
structure NV where
 op:Int
 d:Int
 a:Int
 b:Int
 imm:Int
 h:Int
def uf(x:NV):List Value:=[Vi x.op,Vi x.d,Vi x.a,Vi x.b,Vi x.imm,Vi x.h]
def ci(xs:List NV):List Value:=xs.flatMap uf
theorem Rl(b:List NV):(ci b).length=b.length*6:=by
 induction b with
 |nil=>rfl
 |cons a l c=>show(uf a++ci l).length=(l.length+1)*6;rw[List.length_append,c];show 6+_=_;omega
theorem Si(a b:List NV):ci (a++b)=ci a++ci b:=by simp[ci]
theorem Zt(s:NV):ci [s]=uf s:=by simp[ci]
theorem pM(c:List NV):∀u∈ci c,u.oneCell'=true:=by
 intro u b;simp only[ci,List.mem_flatMap]at b;obtain⟨s,_,a⟩:=b;simp only[uf,List.mem_cons,List.not_mem_nil,or_false]at a;rcases a with rfl|rfl|rfl|rfl|rfl|rfl<;>rfl
theorem qA(A R:List NV)(s:NV)(t:Int):(ci (A++s::R)).set (A.length*6+4) (Vi t)=ci (A++{s with imm:=t}::R):=by
 rw[Si,Si];rw[List.set_append,if_neg (by rw[Rl];omega),Rl,show A.length*6+4-A.length*6=4 by omega];rfl
theorem uw(A R:List NV)(s:NV):(ci (A++s::R))[A.length*6+4]?=some (Vi s.imm):=by
 rw[Si,List.getElem?_append_right (by rw[Rl];omega),Rl,show A.length*6+4-A.length*6=4 by omega];rfl
def IX(s:SV):NV:=⟨s.op,s.d,s.a,s.b,s.imm,s.h⟩
def CZ(cond:Int):Int:=if cond=1 then 31 else if cond=2 then 30 else if cond=3 then 33 else 32
def BP(op imm:Int):NV:=⟨op,0,0,0,imm,0⟩
def CF(L:Nat->SV)(at' i te:Nat):List NV:=
 if _h:i<te then
  if _hs:i+1+(L i).thn.toNat+(L i).els.toNat<=te then
   let n:=i+1+(L i).thn.toNat+(L i).els.toNat
   if(L i).k=1 then IX (L i)::CF L (at'+1) n te
   else if(L i).k=2 then
    let x:=CF L (at'+1) (i+1) (i+1+(L i).thn.toNat)
    let y:=CF L (at'+2+x.length) (i+1+(L i).thn.toNat) n
    BP (CZ (L i).cond) ((at'+2+x.length:Nat):Int)::(x++BP 29 ((at'+2+x.length+y.length:Nat):Int)::(y++CF L (at'+2+x.length+y.length) n te))
   else if(L i).k=3 then
    let x:=CF L (at'+1) (i+1) (i+1+(L i).thn.toNat)
    BP (CZ (L i).cond) ((at'+2+x.length:Nat):Int)::(x++BP 29 (at':Int)::CF L (at'+2+x.length) n te)
   else CF L at' n te
  else[]
 else[]
section
variable{L:Nat->SV}{at' i te:Nat}
theorem IJ(h:¬i<te):CF L at' i te=[]:=by rw[CF,dif_neg h]
theorem YQ(h:i<te)(a:¬i+1+(L i).thn.toNat+(L i).els.toNat<=te):CF L at' i te=[]:=by rw[CF,dif_pos h,dif_neg a]
theorem Rk(h:i<te)(a:i+1+(L i).thn.toNat+(L i).els.toNat<=te)(k:(L i).k=1):CF L at' i te=IX (L i)::CF L (at'+1) (i+1+(L i).thn.toNat+(L i).els.toNat) te:=by rw[CF,dif_pos h,dif_pos a];simp only[if_pos k]
theorem OG(h:i<te)(a:i+1+(L i).thn.toNat+(L i).els.toNat<=te)(k:(L i).k=2){x y:List NV}(b:CF L (at'+1) (i+1) (i+1+(L i).thn.toNat)=x)(c:CF L (at'+2+x.length) (i+1+(L i).thn.toNat) (i+1+(L i).thn.toNat+(L i).els.toNat)=y):
 CF L at' i te=BP (CZ (L i).cond) ((at'+2+x.length:Nat):Int)::(x++BP 29 ((at'+2+x.length+y.length:Nat):Int)::(y++CF L (at'+2+x.length+y.length) (i+1+(L i).thn.toNat+(L i).els.toNat) te)):=by
 rw[CF,dif_pos h,dif_pos a];simp only[if_neg (show¬(L i).k=1 by omega),if_pos k,b,c]
theorem PX(h:i<te)(a:i+1+(L i).thn.toNat+(L i).els.toNat<=te)(k:(L i).k=3){x:List NV}(b:CF L (at'+1) (i+1) (i+1+(L i).thn.toNat)=x):
 CF L at' i te=BP (CZ (L i).cond) ((at'+2+x.length:Nat):Int)::(x++BP 29 (at':Int)::CF L (at'+2+x.length) (i+1+(L i).thn.toNat+(L i).els.toNat) te):=by
 rw[CF,dif_pos h,dif_pos a];simp only[if_neg (show¬(L i).k=1 by omega),if_neg (show¬(L i).k=2 by omega),if_pos k,b]
theorem qH(h:i<te)(a:i+1+(L i).thn.toNat+(L i).els.toNat<=te)(k:¬(L i).k=1/\¬(L i).k=2/\¬(L i).k=3):CF L at' i te=CF L at' (i+1+(L i).thn.toNat+(L i).els.toNat) te:=by
 rw[CF,dif_pos h,dif_pos a];simp only[if_neg k.1,if_neg k.2.1,if_neg k.2.2]
end
theorem UW{L:Nat->SV}{Z:Nat->Int}(n:∀i,0<=Z i):∀(m a i b:Nat),b-i<=m->i<=b->((CF L a i b).length:Int)<=Cs L Z b-Cs L Z i:=by
 intro m;induction m with
 |zero=>intro a i b C e;rw[IJ AB,show i=b by omega];simp
 |succ m d=>
  intro a i b C e;have A:=Ej (L:=L) n e;by_cases h:i<b
  rotate_left
  ·rw[IJ h];simp;omega
  by_cases c:i+1+(L i).thn.toNat+(L i).els.toNat<=b
  rotate_left
  ·rw[YQ h c];simp;omega
  have F:Cs L Z (i+1)=Cs L Z i+wI (L i) Z:=rfl;have I:=jJ (s:=L i) n;have D:=Ej (L:=L) n (show i+1<=i+1+(L i).thn.toNat by omega);have E:=Ej (L:=L) n (show i+1+(L i).thn.toNat<=i+1+(L i).thn.toNat+(L i).els.toNat by omega);by_cases l:(L i).k=1
  ·have p:=d (a+1) (i+1+(L i).thn.toNat+(L i).els.toNat) b AB c
   have q:wI (L i) Z=1:=by unfold wI;rw[if_pos l]
   rw[Rk h c l];simp only[List.length_cons];omega
  by_cases u:(L i).k=2
  ·have q:wI (L i) Z=2:=by unfold wI;rw[if_neg l,if_neg AB]
   obtain⟨x,j⟩:=Au (CF L (a+1) (i+1) (i+1+(L i).thn.toNat));obtain⟨y,r⟩:=Au (CF L (a+2+x.length) (i+1+(L i).thn.toNat) (i+1+(L i).thn.toNat+(L i).els.toNat));have o:=d (a+1) (i+1) (i+1+(L i).thn.toNat) AB AB;have B:=d (a+2+x.length) (i+1+(L i).thn.toNat) (i+1+(L i).thn.toNat+(L i).els.toNat) AB AB;have p:=d (a+2+x.length+y.length) (i+1+(L i).thn.toNat+(L i).els.toNat) b AB c;rw[j]at o;rw[r]at B;rw[OG h c u j r];simp only[List.length_cons,List.length_append];omega
  by_cases z:(L i).k=3
  ·have q:wI (L i) Z=2:=by unfold wI;rw[if_neg l,if_neg AB]
   obtain⟨x,j⟩:=Au (CF L (a+1) (i+1) (i+1+(L i).thn.toNat));have o:=d (a+1) (i+1) (i+1+(L i).thn.toNat) AB AB;have p:=d (a+2+x.length) (i+1+(L i).thn.toNat+(L i).els.toNat) b AB c;rw[j]at o;rw[PX h c z j];simp only[List.length_cons,List.length_append];omega
  ·have p:=d a (i+1+(L i).thn.toNat+(L i).els.toNat) b AB c
   rw[qH h c ⟨l,u,z⟩];omega
abbrev Hq(L:Nat->SV)(n:Nat):Prop:=n<=2000/\(DU L 0 0 321 0 n 0).1=0/\Cs L (fun _=>0) n<2000
def Bb(L:Nat->SV)(n:Nat):List NV:=if Hq L n then CF L 0 0 n++[BP 34 0]else[]
theorem YL:(Tryz.prog.info? 99).map (fun i=>(i.zero,i.size,i.bytes))=some (some (.agg #[Vi 0,Vi 0,Vi 0,Vi 0,Vi 0,Vi 0]),6,48):=AV
theorem PW(w:World)(b:Array Value)(t:TypeId):∀j u,b.toList[j]?=some u->(w.alloc (.cells b t)).cell? ((⟨w.heap.size,0,none⟩:Addr).add j)=some u:=by
 intro j u a;rw[show((⟨w.heap.size,0,none⟩:Addr).add j)=⟨w.heap.size,j,none⟩by simp[Addr.add];exact fun h=>h.symm];simp at a;simp[go_sem,a]
theorem Ov(L:Nat->SV)(Z:Nat->Int)(w0:World)(z0:∀i,0<=Z i)(z1:∀i,Z i<=2001)(me J:Int):∀(m i b:Nat)(a:Int)(v:Value)(S:Nat->Prop)(w:World),Below w0.heap.size w0 w->Ew L m w S v i b->i<=b->b<=2000->(DU L me 0 J i b a).1=0->
 Ks 54 #[v,.slice none 0 0] w fun e I=>e=.returned (Vi (Cs L Z b-Cs L Z i))/\Below w.heap.size w I:=by
 have aB:∀k:Nat,Cs L Z k<=2001*(k:Int):=fun k=>by
  induction k with
  |zero=>simp[Cs]
  |succ k ih=>
   have:=vS (s:=L k) z1;show Cs L Z k+wI (L k) Z<=_;omega
 have R:=hxy aB;have Q:=hxy z0;clear aB z0 z1;intro m;induction m with
 |zero=>
  intro i b a v S w _ hr al _ _;obtain⟨h1,rfl⟩:=hr;obtain rfl:i=b:=AB;refine(Mt none 0 _ w).mono ?_;rintro e I⟨rfl,rfl⟩;exact⟨Ae AB,Below.refl _ _⟩
 |succ m ih=>
  intro i b a v S w az hr al aM ag;obtain⟨xs,j,C,hx⟩:=hr;by_cases am:i=b
  ·subst am
   have aH:xs.length=0:=by rw[C,GZ AB];rfl
   have hv:∃ao E,v=.slice ao 0 E:=by
    rcases j.1.2 with⟨e,_⟩|⟨g,E,aK,e,_⟩
    ·exact⟨_,_,e⟩
    ·rw[aH]at e;exact⟨_,_,e⟩
   obtain⟨ao,E,rfl⟩:=hv;refine(Mt ao E _ w).mono ?_;rintro e I⟨rfl,rfl⟩;exact⟨Ae AB,Below.refl _ _⟩
  have ap:0<xs.length:=by rw[C,Dm AB];simp
  have an:xs.length<=2000:=by rw[C];exact Nat.le_trans (OP L _ i b BQ) AB
  obtain⟨g,cv,hv⟩:=Ii j.1 ap;subst hv;have aI:g<w.heap.size:=(j.1.lt g rfl).2;have o:=hxy az;have ac:=hxy j;have ae:=hxy C;have HX:Hid _:=hx;have aD:=hxy ag;have IH:Hid _:=ih;clear az j C hx ag ih;obtain⟨aP,A⟩:=Au (Cs L Z b-Cs L Z i);rw[A];have ab:=hxy A;clear A;obtain⟨nx,X⟩:=Au xs.length;have r:=hxy X;rw[X]at ap an⊢;clear X;go_enter Tryz.func54,Tryz.ntmps54;go_wp2;go_loopw [5,10](fun tv iv wr=>∃(q p:Nat),q<=nx/\i<=p/\p<=b/\iv=Vi (q:Int)/\tv=Vi (Cs L Z p-Cs L Z i)/\Bw w wr/\(D8 L i b).drop q=D8 L p b/\(DU L me 0 J p b a).1=0)(fun _ iv _=>nx-(intOf iv).toNat)
  case atStart=>exact⟨0,i,Nat.zero_le _,BQ,al,rfl,AX,Below.refl _ _,AX,aD⟩
  case round=>
   obtain⟨q,p,hq,aG,aN,rfl,rfl,af,aj,ah⟩:=hrel;have n:=hxy af;have D:=hxy aj;have aE:=hxy ah;clear af aj ah;have t0:=Ej (L:=L) Q aG;have t1:=R.out p;have t2:=JZ (L:=L) Q i;by_cases F:p<b
   rotate_left
   ·obtain rfl:p=b:=AB
    have aO:q=nx:=by
     have h:=congrArg List.length D;rw[List.length_drop,<-ae.out,r.out,GZ (i:=p) (te:=p) AB]at h;simp at h;omega
    have aw:¬(q:Int)<(nx:Int):=AB;clear t0 t1 t2;go_wp2;go_ret;exact⟨Ae (by rw[<-ab.out]),n⟩
   have av:q<nx:=by
    have h:=congrArg List.length D;rw[List.length_drop,<-ae.out,r.out,Dm F]at h;simp at h;omega
   have aw:(q:Int)<(nx:Int):=AB;obtain⟨x,Y⟩:∃x,xs[q]?=some x:=⟨xs[q]'(by rw[r.out];exact av),by simp[r.out,av]⟩
   have au:(D8 L i b)[q]?=some p:=by
    have h:=congrArg (fun l=>l[0]?) D;simp only[Dm F,List.getElem?_drop,Nat.add_zero,List.getElem?_cons_zero]at h;exact h
   have ai:(D8 L i b).drop (q+1)=D8 L (p+1+(L p).thn.toNat+(L p).els.toNat) b:=by
    have h:=congrArg (List.drop 1) D;rw[List.drop_drop,Dm F]at h;simpa[Nat.add_comm]using h
   have g0:wr.cell? (Va g q)=some x:=by
    rw[n.cell (p:=Va g q) aI,ac.1.cellAt q (by rw[r.out];omega)];exact Y
   obtain⟨aA,ar,c1,c2,c3⟩:=FX aE F;have y:=hxy aA;have aa:Hid _:=c1;have aC:Hid _:=c2;have N:Hid _:=c3;have O:Hid _:=ai;have c:=hxy ar;have aJ:Hid (Cs L Z (p+1)=Cs L Z p+wI (L p) Z):=rfl;have U:=HX.out q x p Y au;clear aA c1 c2 c3 ai ar Y au;have ay:Hid ((L p).k=1∨(L p).k=4->(L p).thn.toNat=0/\(L p).els.toNat=0):=(fun h=>by have:=(PD y).1 h;omega:(L p).k=1∨(L p).k=4->(L p).thn.toNat=0/\(L p).els.toNat=0)
   have ak:Hid ((L p).k=3->(L p).els.toNat=0):=(fun h=>by have:=(PD y).2 h;omega:(L p).k=3->(L p).els.toNat=0)
   rcases U with⟨k1,rfl⟩|⟨k2,v1,v2,rfl,r1,r2⟩|⟨k3,v1,rfl,r1⟩|⟨k4,rfl⟩
   ·obtain⟨ea,eb⟩:=ay.out (.inl k1)
    have HQ:Hid (Cs L Z (p+1+(L p).thn.toNat+(L p).els.toNat)=Cs L Z p+1):=(by rw[ea,eb];show Cs L Z p+wI (L p) Z=_;simp[wI,k1]:Cs L Z (p+1+(L p).thn.toNat+(L p).els.toNat)=Cs L Z p+1)
    have hm:=UB;clear k1 ea eb;go_wp2_with fail;refine(Od _ _ _ _ _ _ _ _ _).mono ?_;rintro e u1⟨rfl,K⟩;have B2:=hxy (n.trans (K.mono n.size));clear K hm g0;go_wp2;go_roundw
    case rel=>exact⟨q+1,p+1+(L p).thn.toNat+(L p).els.toNat,AB,AB,c,by go_num,by rw[HQ.out];congr 1;omega,B2,O,N⟩
    case measure=>simp[intOf];omega
   ·have HQ:Hid (Cs L Z (p+1)=Cs L Z p+2):=(by show Cs L Z p+wI (L p) Z=_;simp[wI,k2]:Cs L Z (p+1)=Cs L Z p+2)
    have hm:=Ti;have m1:=Ej (L:=L) Q (show p+1<=p+1+(L p).thn.toNat by omega);have m2:=Ej (L:=L) Q (show p+1+(L p).thn.toNat<=p+1+(L p).thn.toNat+(L p).els.toNat by omega);have m3:=R.out (p+1+(L p).thn.toNat+(L p).els.toNat);have m4:=JZ (L:=L) Q (p+1);have hn:=c.out;obtain⟨M,B⟩:=Au (Cs L Z (p+1+(L p).thn.toNat)-Cs L Z (p+1));obtain⟨s2,ax⟩:=Au (Cs L Z (p+1+(L p).thn.toNat+(L p).els.toNat)-Cs L Z (p+1+(L p).thn.toNat));have u:Hid _:=B;have ad:Hid _:=ax;have y0:0<=M:=AB;have y1:M<=1099511627776:=AB;have y2:0<=s2:=AB;have y3:s2<=1099511627776:=AB;have y4:M+s2<=4002000:=AB;have R1:=hxy r1;have R2:=hxy r2;clear k2 r1 r2 m1 m2 m3 m4 hn B ax;go_wp2_with fail;refine(Nr _ _ v1 v2 _ M s2 _ y0 y1 y2 y3 (fun I z=>?h1) (fun I z=>?h2)).mono ?_
    case h1=>
     have d:=n.trans (z.mono n.size);have hn:=c.out;have h:=IH.out (p+1) (p+1+(L p).thn.toNat) (a+1) v1 S I (o.trans (d.mono o.size)) (R1.below d) AB AB aa;rw[u.out]at h;exact h
    case h2=>
     have d:=n.trans (z.mono n.size);have hn:=c.out;have h:=IH.out (p+1+(L p).thn.toNat) (p+1+(L p).thn.toNat+(L p).els.toNat) (a+1) v2 S I (o.trans (d.mono o.size)) (R2.below d) AB AB aC;rw[ad.out]at h;exact h
    rintro e u1⟨rfl,K⟩;have B2:=hxy (n.trans (K.mono n.size));clear K hm g0;go_wp2;go_roundw
    case rel=>exact⟨q+1,p+1+(L p).thn.toNat+(L p).els.toNat,AB,AB,c,by go_num,by have q1:=u.out;have q2:=ad.out;have q3:=HQ.out;congr 1;omega,B2,O,N⟩
    case measure=>simp[intOf];omega
   ·have ee:=ak.out k3
    have HQ:Hid (Cs L Z (p+1)=Cs L Z p+2):=(by show Cs L Z p+wI (L p) Z=_;simp[wI,k3]:Cs L Z (p+1)=Cs L Z p+2)
    have hm:=YC;have m1:=Ej (L:=L) Q (show p+1<=p+1+(L p).thn.toNat by omega);have m3:=R.out (p+1+(L p).thn.toNat);have m4:=JZ (L:=L) Q (p+1);have hn:=c.out;obtain⟨M,B⟩:=Au (Cs L Z (p+1+(L p).thn.toNat)-Cs L Z (p+1));have u:Hid _:=B;have aF:=hxy ee;have y0:0<=M:=AB;have y1:M<=4002000:=AB;have R1:=hxy r1;clear k3 r1 m1 m3 m4 hn B ee;go_wp2_with fail;refine(Ra _ _ v1 _ M _ y0 AB (fun I z=>?h1)).mono ?_
    case h1=>
     have d:=n.trans (z.mono n.size);have hn:=c.out;have h:=IH.out (p+1) (p+1+(L p).thn.toNat) (a+1) v1 S I (o.trans (d.mono o.size)) (R1.below d) AB AB aa;rw[u.out]at h;exact h
    rintro e u1⟨rfl,K⟩;have B2:=hxy (n.trans (K.mono n.size));clear K hm g0;go_wp2;go_roundw
    case rel=>exact⟨q+1,p+1+(L p).thn.toNat+(L p).els.toNat,AB,AB,c,by go_num,by have q1:=u.out;have q3:=HQ.out;rw[aF.out];congr 1;simp only[Nat.add_zero];omega,B2,O,N⟩
    case measure=>simp[intOf];omega
   ·obtain⟨q0,q1⟩:=Rw y k4
    omega
def RJ(s:SV):List Value:=[Vi s.k,Vi s.op,Vi s.d,Vi s.a,Vi s.b,Vi s.imm,Vi s.h,Vi s.cond,Vi s.thn,Vi s.els,Vi s.proc]
def Es(xs:List SV):List Value:=xs.flatMap RJ
theorem Xe(b:List SV):(Es b).length=b.length*11:=by
 induction b with
 |nil=>rfl
 |cons a l c=>show(RJ a++Es l).length=(l.length+1)*11;rw[List.length_append,c];show 11+_=_;omega
theorem qP(a b:List SV):Es (a++b)=Es a++Es b:=by simp[Es]
theorem Nj(s:SV):Es [s]=RJ s:=by simp[Es]
theorem XF(b:List SV)(d:SV):∀p,p<b.length*11->(Es b)[p]?=some (JW (fun i=>b.getD i d) p):=by
 induction b with
 |nil=>intro p h;simp at h
 |cons a l j=>
  intro p h;show(RJ a++Es l)[p]?=_;by_cases c:p<11
  ·rw[List.getElem?_append_left (by show p<11;exact c)]
   unfold JW;rw[show p/11=0 by omega,show p%11=p by omega];match p,c with
   |0,_=>rfl
   |1,_=>rfl
   |2,_=>rfl
   |3,_=>rfl
   |4,_=>rfl
   |5,_=>rfl
   |6,_=>rfl
   |7,_=>rfl
   |8,_=>rfl
   |9,_=>rfl
   |10,_=>rfl
  ·rw[List.getElem?_append_right (by show 11<=p;omega)]
   show(Es l)[p-11]?=_;rw[j (p-11) (by simp at h;omega)];unfold JW;rw[show(p-11)/11=p/11-1 by omega,show(p-11)%11=p%11 by omega];obtain⟨k,e⟩:∃k,p/11=k+1:=⟨p/11-1,AB⟩
   rw[e];rfl
def Yg(B:Nat->List SV)(L:Nat->SV)(i te:Nat):List SV:=
 if _h:i<te then
  if _hs:i+1+(L i).thn.toNat+(L i).els.toNat<=te then
   (if(L i).k=4 then B (L i).proc.toNat else{L i with thn:=((Yg B L (i+1) (i+1+(L i).thn.toNat)).length:Int),els:=((Yg B L (i+1+(L i).thn.toNat) (i+1+(L i).thn.toNat+(L i).els.toNat)).length:Int)}::(Yg B L (i+1) (i+1+(L i).thn.toNat)++Yg B L (i+1+(L i).thn.toNat) (i+1+(L i).thn.toNat+(L i).els.toNat)))++Yg B L (i+1+(L i).thn.toNat+(L i).els.toNat) te
  else[]
 else[]
section
variable{B:Nat->List SV}{L:Nat->SV}{i te:Nat}
end
def bz(Pv:Nat->PV)(np:Nat):Nat->Nat->List SV
 |0=>fun _=>[]
 |k+1=>fun i=>if i=np-1-k then Yg (bz Pv np k) (Pv (np-1-k)).L 0 (Pv (np-1-k)).n else bz Pv np k i
section
variable{Pv:Nat->PV}{np:Nat}
end
theorem Ka{P:Program}{D:Region.Mode}{R:Array Oper}{Q:Exit->Act->World->Prop}{S:World->Prop}{q i:Nat}{y:Array Bool}{a:Act}{w j:World}{o:Oper}(s x:Operand){t:TypeId}{v u v':Value}(e:R[i]?=some o)(m:Region.wanted o (yielded R a.tmps)=true)
 (b:o.op=.call {callee:=.builtin .append,args:=#[s,x],argTypes:=#[t,t]})(l:a.eval s=v)(n:a.eval x=u)(k:(Builtin.append_ #[t,t] o.type #[v,u]).run P w=.ok v' j)(d:S j)(h:S j->wpAnyH P D R Q S q (y.setIfInBounds i true) (a.put o.dst v') j):AllReadyH P D R Q S q y a w [i]:=
 AllReadyH.cons e (fun p c=>by
  rw[if_pos m];unfold Oper.wp execOp;simp only[b,resolve,invoke,builtin,Sem.run_bind,Sem.run_pure,Result.andThen_ok,List.map_toArray,List.map_cons,List.map_nil,l,n,k];exact c _ _ d h) AllReadyH.nil
end Go.Proofs.YtcjnmdgomocpgaaGreatDoor
