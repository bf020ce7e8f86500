import Derived.Test.YtkckomianknjdaaGreatOfCoreF
import Derived.Test.YtkckomianknjdaaGreatRows
import Derived.WalkKit
import Derived.WalkSpells
import Derived.WalkLawsBesides
import Derived.Test.YtkckomianknjdaaGreatOfUnitBlock
import Derived.Deep.Onto
set_option maxHeartbeats 4000000
set_option maxRecDepth 20000
namespace Go.Proofs.YtkckomianknjdaaGreat
open Go.RowKit
variable {n:Nat}{Z:Nat->Int}{s:SV}{w:World}
def first(m:Nat)(f:Nat->Value):List Value:=(List.range m).map f
theorem CJ(m:Nat)(f:Nat->Value):(first m f).length=m:=by simp[first]
theorem Eh{m:Nat}{f:Nat->Value}{j:Nat}{u:Value}(h:(first m f)[j]?=some u):j<m/\u=f j:=by
 unfold first at h
 rw[List.getElem?_map]at h;by_cases a:j<m
 ·rw[List.getElem?_range a]at h
  exact⟨a,by simpa using h.symm⟩
 ·rw[List.getElem?_eq_none (by simpa using Nat.le_of_not_lt a)]at h
  cases h
theorem Ej{m:Nat}{f:Nat->Value}{u:Value}(h:u∈first m f):∃j,j<m/\u=f j:=by
 unfold first at h
 simp only[List.mem_map,List.mem_range]at h;obtain⟨j,a,rfl⟩:=h;exact⟨j,a,rfl⟩
theorem MG:(Tryz.prog.info? 74).map (fun i=>(i.zero,i.size,i.bytes))=some (some (.int .u64 0),1,8):=Ab
theorem WR(b h n m:Nat)(f:Nat->Value)(w:World)(O:n<=1048576)(q:At w b h (n*1) f)(F:∀i,(f i).oneCell'=true):
 Calls Tryz.prog 81 #[.slice (some ⟨b,h,none⟩) n m] w fun e y=>∃l,e=.returned l/\y.ownsRow w.heap.size 74 1 l n (first (n*1) f)/\Below w.heap.size w y/\(l=.slice none 0 0↔n=0):=by
 obtain⟨N,I,r,s,x⟩:=info_parts MG;have B:=hxy q;have A:=hxy F;go_enter Tryz.func81,Tryz.ntmps81;go_wp2_with(first|(at_builtin;refine wpList_append_own _ rfl _ _ 24 rfl w.heap.size 74 N (.int .u64 0) 1 8 Tryz.underlying24 I r s x rfl Aa _ 0 [] rfl (World.ownsRow_nil _ _ _ _) ⟨b,h,none⟩ n m (first (n*1) f) rfl (CJ _ _) ?c1 ?c2 ?c3 ?c4 ?c5 ?_)|go_in)
 case c1=>
  intro j u J;obtain⟨L,rfl⟩:=Eh J;rw[Addr.add_lit];exact B.cell L
 case c2=>
  intro u M;obtain⟨j,_,rfl⟩:=Ej M;exact A j
 case c3=>unfold maxLen;omega
 case c4=>omega
 case c5=>exact BP
 ·intro l z p a o
  have d:z.ownsRow w.heap.size 74 1 l n (first (n*1) f):=by simpa using p
  have c:l=.slice none 0 0↔n=0:=by simpa using o
  have C:Hid (Bw w z):=Al.grown a BP (by intro k K;cases K);have E:=hxy (d);have D:=hxy c;go_wp2;go_ret;exact⟨l,rfl,E,C,D⟩
theorem VY(w:World):Calls Tryz.prog 81 #[.slice none 0 0] w fun e a=>e=.returned (.slice none 0 0)/\a=w:=by
 go_enter Tryz.func81,Tryz.ntmps81;go_wp2;go_ret;exact⟨rfl,rfl⟩
theorem Ll:(Tryz.prog.info? 5).map (fun i=>(i.zero,i.size,i.bytes))=some (some (.int .u8 0),1,1):=Ab
theorem Xr(b h n m:Nat)(f:Nat->Value)(w:World)(O:n<=1048576)(q:At w b h (n*1) f)(F:∀i,(f i).oneCell'=true):
 Calls Tryz.prog 83 #[.slice (some ⟨b,h,none⟩) n m] w fun e y=>∃l,e=.returned l/\y.ownsRow w.heap.size 5 1 l n (first (n*1) f)/\Below w.heap.size w y/\(l=.slice none 0 0↔n=0):=by
 obtain⟨N,I,r,s,x⟩:=info_parts Ll;have B:=hxy q;have A:=hxy F;go_enter Tryz.func83,Tryz.ntmps83;go_wp2_with(first|(at_builtin;refine wpList_append_own _ rfl _ _ 22 rfl w.heap.size 5 N (.int .u8 0) 1 1 Tryz.underlying22 I r s x rfl Aa _ 0 [] rfl (World.ownsRow_nil _ _ _ _) ⟨b,h,none⟩ n m (first (n*1) f) rfl (CJ _ _) ?c1 ?c2 ?c3 ?c4 ?c5 ?_)|go_in)
 case c1=>
  intro j u J;obtain⟨L,rfl⟩:=Eh J;rw[Addr.add_lit];exact B.cell L
 case c2=>
  intro u M;obtain⟨j,_,rfl⟩:=Ej M;exact A j
 case c3=>unfold maxLen;omega
 case c4=>omega
 case c5=>exact BP
 ·intro l z p a o
  have d:z.ownsRow w.heap.size 5 1 l n (first (n*1) f):=by simpa using p
  have c:l=.slice none 0 0↔n=0:=by simpa using o
  have C:Hid (Bw w z):=Al.grown a BP (by intro k K;cases K);have E:=hxy (d);have D:=hxy c;go_wp2;go_ret;exact⟨l,rfl,E,C,D⟩
theorem Lv:(Tryz.prog.info? 109).map (fun i=>(i.zero,i.size,i.bytes))=some (some (.agg #[Vi 0,.int .u64 0]),2,16):=Ab
theorem WU(b h n m:Nat)(f:Nat->Value)(w:World)(O:n<=1048576)(q:At w b h (n*2) f)(F:∀i,(f i).oneCell'=true):
 Calls Tryz.prog 84 #[.slice (some ⟨b,h,none⟩) n m] w fun e y=>∃l,e=.returned l/\y.ownsRow w.heap.size 109 2 l n (first (n*2) f)/\Below w.heap.size w y/\(l=.slice none 0 0↔n=0):=by
 obtain⟨N,I,r,s,x⟩:=info_parts Lv;have B:=hxy q;have A:=hxy F;go_enter Tryz.func84,Tryz.ntmps84;go_wp2_with(first|(at_builtin;refine wpList_append_own _ rfl _ _ 26 rfl w.heap.size 109 N (.agg #[Vi 0,.int .u64 0]) 2 16 Tryz.underlying26 I r s x rfl Aa _ 0 [] rfl (World.ownsRow_nil _ _ _ _) ⟨b,h,none⟩ n m (first (n*2) f) rfl (CJ _ _) ?c1 ?c2 ?c3 ?c4 ?c5 ?_)|go_in)
 case c1=>
  intro j u J;obtain⟨L,rfl⟩:=Eh J;rw[Addr.add_lit];exact B.cell L
 case c2=>
  intro u M;obtain⟨j,_,rfl⟩:=Ej M;exact A j
 case c3=>unfold maxLen;omega
 case c4=>omega
 case c5=>exact BP
 ·intro l z p a o
  have d:z.ownsRow w.heap.size 109 2 l n (first (n*2) f):=by simpa using p
  have c:l=.slice none 0 0↔n=0:=by simpa using o
  have C:Hid (Bw w z):=Al.grown a BP (by intro k K;cases K);have E:=hxy (d);have D:=hxy c;go_wp2;go_ret;exact⟨l,rfl,E,C,D⟩
theorem Vo(w:World):Calls Tryz.prog 84 #[.slice none 0 0] w fun e a=>e=.returned (.slice none 0 0)/\a=w:=by
 go_enter Tryz.func84,Tryz.ntmps84;go_wp2;go_ret;exact⟨rfl,rfl⟩
theorem KQ:(Tryz.prog.info? 76).map (fun i=>(i.zero,i.size,i.bytes))=some (some (.agg #[.int .u64 0,.bool false,.slice none 0 0]),3,40):=Ab
theorem WA(b h n m:Nat)(f:Nat->Value)(w:World)(O:n<=1048576)(q:At w b h (n*3) f)(F:∀i,(f i).oneCell'=true):
 Calls Tryz.prog 82 #[.slice (some ⟨b,h,none⟩) n m] w fun e y=>∃l,e=.returned l/\y.ownsRow w.heap.size 76 3 l n (first (n*3) f)/\Below w.heap.size w y/\(l=.slice none 0 0↔n=0):=by
 obtain⟨N,I,r,s,x⟩:=info_parts KQ;have B:=hxy q;have A:=hxy F;go_enter Tryz.func82,Tryz.ntmps82;go_wp2_with(first|(at_builtin;refine wpList_append_own _ rfl _ _ 25 rfl w.heap.size 76 N (.agg #[.int .u64 0,.bool false,.slice none 0 0]) 3 40 Tryz.underlying25 I r s x rfl Aa _ 0 [] rfl (World.ownsRow_nil _ _ _ _) ⟨b,h,none⟩ n m (first (n*3) f) rfl (CJ _ _) ?c1 ?c2 ?c3 ?c4 ?c5 ?_)|go_in)
 case c1=>
  intro j u J;obtain⟨L,rfl⟩:=Eh J;rw[Addr.add_lit];exact B.cell L
 case c2=>
  intro u M;obtain⟨j,_,rfl⟩:=Ej M;exact A j
 case c3=>unfold maxLen;omega
 case c4=>omega
 case c5=>exact BP
 ·intro l z p a o
  have d:z.ownsRow w.heap.size 76 3 l n (first (n*3) f):=by simpa using p
  have c:l=.slice none 0 0↔n=0:=by simpa using o
  have C:Hid (Bw w z):=Al.grown a BP (by intro k K;cases K);have E:=hxy (d);have D:=hxy c;go_wp2;go_ret;exact⟨l,rfl,E,C,D⟩
theorem Vk(w:World):Calls Tryz.prog 82 #[.slice none 0 0] w fun e a=>e=.returned (.slice none 0 0)/\a=w:=by
 go_enter Tryz.func82,Tryz.ntmps82;go_wp2;go_ret;exact⟨rfl,rfl⟩
theorem YM(x:Option Addr)(b n a:Nat)(f:Nat->Value)(w:World)(k:n<=1048576)(l:(x=none/\n=0/\a=0)∨x=some ⟨b,0,none⟩)(c:At w b 0 (n*1) f)(j:∀i,(f i).oneCell'=true):
 Calls Tryz.prog 81 #[.slice x n a] w fun e h=>∃d,e=.returned d/\h.ownsRow w.heap.size 74 1 d n (first (n*1) f)/\Below w.heap.size w h/\(d=.slice none 0 0↔n=0):=by
 rcases l with⟨rfl,rfl,rfl⟩|rfl
 ·refine(VY w).mono ?_
  rintro e h⟨rfl,rfl⟩;exact⟨_,rfl,⟨rfl,.inl ⟨rfl,rfl⟩⟩,Below.refl _ _,AY⟩
 ·exact WR b 0 n a f w k c j
theorem ZE(x:Option Addr)(b n a:Nat)(f:Nat->Value)(w:World)(k:n<=1048576)(l:(x=none/\n=0/\a=0)∨x=some ⟨b,0,none⟩)(c:At w b 0 (n*2) f)(j:∀i,(f i).oneCell'=true):
 Calls Tryz.prog 84 #[.slice x n a] w fun e h=>∃d,e=.returned d/\h.ownsRow w.heap.size 109 2 d n (first (n*2) f)/\Below w.heap.size w h/\(d=.slice none 0 0↔n=0):=by
 rcases l with⟨rfl,rfl,rfl⟩|rfl
 ·refine(Vo w).mono ?_
  rintro e h⟨rfl,rfl⟩;exact⟨_,rfl,⟨rfl,.inl ⟨rfl,rfl⟩⟩,Below.refl _ _,AY⟩
 ·exact WU b 0 n a f w k c j
theorem Ye(x:Option Addr)(b n a:Nat)(f:Nat->Value)(w:World)(k:n<=1048576)(l:(x=none/\n=0/\a=0)∨x=some ⟨b,0,none⟩)(c:At w b 0 (n*3) f)(j:∀i,(f i).oneCell'=true):
 Calls Tryz.prog 82 #[.slice x n a] w fun e h=>∃d,e=.returned d/\h.ownsRow w.heap.size 76 3 d n (first (n*3) f)/\Below w.heap.size w h/\(d=.slice none 0 0↔n=0):=by
 rcases l with⟨rfl,rfl,rfl⟩|rfl
 ·refine(Vk w).mono ?_
  rintro e h⟨rfl,rfl⟩;exact⟨_,rfl,⟨rfl,.inl ⟨rfl,rfl⟩⟩,Below.refl _ _,AY⟩
 ·exact WA b 0 n a f w k c j
theorem Ey{P:Program}{b:Array Oper}{o:Oper}{a:Act}{K:Act->World->Prop}{Q:Exit->Act->World->Prop}{E:Prop}
 (Z:o.guard=none)(s x:Operand)(t:TypeId)(D:o.op=Op.call {callee:=Callee.builtin Builtin.append,args:=#[s,x],argTypes:=#[t,t]})(l:Nat)
 (e:TypeId)(i:TypeInfo)(z:Value)(d k:Nat)(J:P.underlying t=some (.slice e))(L:P.info? e=some i)(M:i.zero=some z)(N:i.size=d)(O:i.bytes=k)(R:z.cells.size=d)(S:0<d)
 (v:Value)(n:Nat)(p:List Value)(hs:a.eval s=v)(q:w.ownsRow l e d v n p)
 (B:Addr)(m c:Nat)(h:List Value)(hx:a.eval x=.slice (some B) m c)(hn:h.length=m*d)(Y:∀j u,h[j]?=some u->w.cell? (B.add j)=some u)(C:∀u∈h,u.oneCell'=true)
 (F:n+m<=maxLen)(I:(n+m)*k<=140737488355328)(X:l<=w.heap.size)
 (U:∀A y,y.ownsRow l e d A (n+m) (p++h)->w.grownBy y v.ownBlock->K (a.put o.dst A) y):
 if Region.wanted o (yielded b a.tmps)=true then Oper.wp P o a w K Q else E:=by
 have hw:Region.wanted o (yielded b a.tmps)=true:=by simp[Region.wanted,Z]
 rw[if_pos hw];obtain⟨A,y,r,r1,r2,_⟩:=run_append_own (P:=P) w l t o.type e i z d k J L M N O R S v n p q B m c h hn Y C F I X;unfold Oper.wp;simp[execOp,D,resolve,invoke,builtin,hs,hx,r,Result.andThen];exact U A y r1 r2
def zF(Z:Nat->Int)(i:Nat):Value:=Vi (Z i)
def wI(s:SV)(Z:Nat->Int):Int:=if s.k=1 then 1 else if s.k=4 then Z s.proc.toNat else 2
def Cg(L:Nat->SV)(Z:Nat->Int):Nat->Int
 |0=>0
 |k+1=>Cg L Z k+wI (L k) Z
theorem XY(h:∀i,0<=Z i):0<=wI s Z:=by
 unfold wI;split
 ·omega
 ·split
  ·exact h _
  ·omega
theorem jU(h:∀i,Z i<=2001):wI s Z<=2001:=by
 unfold wI;split
 ·omega
 ·split
  ·exact h _
  ·omega
theorem Eg{L:Nat->SV}(h:∀i,0<=Z i){k:Nat}(b:k<=n):Cg L Z k<=Cg L Z n:=by
 induction n with
 |zero=>rw[show k=0 by omega];exact Int.le_refl _
 |succ n a=>
  by_cases e:k=n+1
  ·rw[e];exact Int.le_refl _
  ·have:=a AB
   have:=XY (s:=L n) h;show Cg L Z k<=Cg L Z n+wI (L n) Z;omega
theorem Iu{L:Nat->SV}(h:∀i,0<=Z i)(k:Nat):0<=Cg L Z k:=Eg h (Nat.zero_le k)
def Le(x:Int):Int:=if 2000<x then 2001 else x
theorem TU(b n A:Nat)(L:Nat->SV)(bz p X:Nat)(Z:Nat->Int)(w:World)(ln:n<=1048576)(I:BZ w b (n*11) (I5 L))(J:At w bz 0 p (zF Z))(z0:∀i,0<=Z i)(z1:∀i,Z i<=2001)(hp:∀j,j<n->(L j).k=4->0<=(L j).proc/\(L j).proc<p):
 Calls Tryz.prog 47 #[Vs b n A,Vs bz p X] w fun e w'=>e=.returned (Vi (Le (Cg L Z n)))/\w'=w:=by
 have Q:=hxy I;have S:=hxy J;have R:=hxy hp;have z:=hxy z0;have U:=hxy z1;have lb:=I.lt;have aa:=J.lt;obtain⟨ab,d⟩:=BG (Le (Cg L Z n));rw[d];have u:=hxy d;go_enter Tryz.func47,Tryz.ntmps47;go_wp2;go_loopw [5,6](fun nv C wr=>∃j:Nat,j<=n/\C=Vi (j:Int)/\nv=Vi (Cg L Z j)/\Cg L Z j<=4001/\wr=w)(fun _ C _=>n-(intOf C).toNat)
 case atStart=>exact⟨0,Nat.zero_le _,rfl,rfl,by simp[Cg],rfl⟩
 case round=>
  obtain⟨j,hj,rfl,rfl,h4,rfl⟩:=hrel;have p0:=Iu (L:=L) z j;have HS:Hid (Cg L Z (j+1)=Cg L Z j+wI (L j) Z):=rfl;have s:Hid (Cg L Z j<=Cg L Z n):=Eg z hj;obtain⟨x,N⟩:=BG (Cg L Z j);have a:=hxy N;rw[N]at h4 p0⊢;by_cases h:j<n
  ·have l:(j:Int)<(n:Int):=AB
   obtain⟨s0,_,_,_,_,_,_,_,_,_,D⟩:=Gm Q.out j h;by_cases m:x<=2000
   ·have Y:decide (x<=2000)=true:=by simp[m]
    by_cases r:(L j).k=1
    ·have e1:((L j).k==1)=true:=by simp[r]
     have c:Hid (wI (L j) Z=1):=(by simp[wI,r]:wI (L j) Z=1)
     go_wp2;go_roundw
     case rel=>exact⟨j+1,AB,by go_num,by rw[HS.out,a.out,c.out],by rw[HS.out,a.out,c.out];omega,by first|rfl|trivial⟩
     case measure=>simp[intOf];omega
    ·have e1:((L j).k==1)=false:=by simp[r]
     by_cases o:(L j).k=4
     ·have e4:((L j).k==4)=true:=by simp[o]
      obtain⟨q0,q1⟩:=R.out j h o;obtain⟨q,K⟩:∃y:Nat,(L j).proc=(y:Int):=⟨(L j).proc.toNat,AB⟩
      have c:Hid (wI (L j) Z=Z q):=(by simp[wI,o,K]:wI (L j) Z=Z q)
      rw[K]at D;have B:q<p:=AB;have M:(q:Int)<(p:Int):=AB;have g0:wr.cell? (Va bz q)=some (Vi (Z q)):=by have:=S.cell B;rwa [Nat.zero_add]at this
      have y0:=z.out q;have y1:=U.out q;obtain⟨y,O⟩:=BG (Z q);have E:=hxy O;rw[O]at g0 y0 y1;go_wp2;go_roundw
      case rel=>exact⟨j+1,AB,by go_num,by rw[HS.out,a.out,c.out,E.out],by rw[HS.out,a.out,c.out,E.out];omega,by first|rfl|trivial⟩
      case measure=>simp[intOf];omega
     ·have e4:((L j).k==4)=false:=by simp[o]
      have c:Hid (wI (L j) Z=2):=(by simp[wI,r,o]:wI (L j) Z=2)
      go_wp2;go_roundw
      case rel=>exact⟨j+1,AB,by go_num,by rw[HS.out,a.out,c.out],by rw[HS.out,a.out,c.out];omega,by first|rfl|trivial⟩
      case measure=>simp[intOf];omega
   ·have Y:decide (x<=2000)=false:=by simp;omega
    have F:decide (2000<x)=true:=by simp;omega
    go_wp2;go_ret;exact⟨Bb (by rw[<-u.out,Le,if_pos (by have:=s.out;rw[a.out]at this;omega)]),rfl⟩
  ·obtain rfl:j=n:=AB
   have l:¬(j:Int)<(j:Int):=AB;by_cases m:x<=2000
   ·have F:decide (2000<x)=false:=by simp;omega
    go_wp2;go_ret;exact⟨Bb (by rw[<-u.out,Le,a.out,if_neg AB]),rfl⟩
   ·have F:decide (2000<x)=true:=by simp;omega
    go_wp2;go_ret;exact⟨Bb (by rw[<-u.out,Le,a.out,if_pos AB]),rfl⟩
structure PV where
 n:Nat
 L:Nat->SV
 c:Nat
def pF(Pv:Nat->PV)(blk:Nat->Nat)(i:Nat):Value:=.slice (some ⟨blk i,0,none⟩) (Pv i).n (Pv i).c
def zs(Pv:Nat->PV)(np:Nat):Nat->Nat->Int
 |0=>fun _=>0
 |k+1=>fun i=>if i=np-1-k then Le (Cg (Pv (np-1-k)).L (zs Pv np k) (Pv (np-1-k)).n)else zs Pv np k i
theorem ZY{x:Int}(h:0<=x):0<=Le x/\Le x<=2001:=by unfold Le;split<;>omega
theorem ZN(L:Nat->SV)(p b d:Int):∀(m i l:Nat)(a:Int),l-i<=m->(Cy L p b d i l a).1=0->∀j,i<=j->j<l->BS (L j) b=true:=by
 intro m;induction m using Nat.strongRecOn with
 |ind m ih=>
 intro i l a B c j A u;have h:i<l:=AB;by_cases n:BS (L i) b=false
 ·rw[Lu h n]at c;exact absurd c AY
 by_cases o:i+1+(L i).thn.toNat+(L i).els.toNat<=l
 rotate_left
 ·rw[Hl h n o]at c;exact absurd c AY
 by_cases s:((L i).k=2∨(L i).k=3)/\d<=a
 ·rw[Iq h n o s]at c;exact absurd c AY
 by_cases x:(L i).k=4/\(L i).proc<=p
 ·rw[Lr h n o s x]at c;exact absurd c AY
 rw[Kb h n o s x]at c;by_cases q:(Cy L p b d (i+1) (i+1+(L i).thn.toNat) (a+1)).1≠0
 ·rw[if_pos q]at c;exact absurd c q
 rw[if_neg q]at c;by_cases r:(Cy L p b d (i+1+(L i).thn.toNat) (i+1+(L i).thn.toNat+(L i).els.toNat) (a+1)).1≠0
 ·rw[if_pos r]at c;exact absurd c r
 rw[if_neg r]at c;by_cases e:j=i
 ·rw[e];simpa using n
 by_cases y:j<i+1+(L i).thn.toNat
 ·exact ih (l-i-1) AB (i+1) _ (a+1) AB (by simpa using q) j AB y
 by_cases z:j<i+1+(L i).thn.toNat+(L i).els.toNat
 ·exact ih (l-i-1) AB (i+1+(L i).thn.toNat) _ (a+1) AB (by simpa using r) j AB z
 ·exact ih (l-i-1) AB _ l a AB c j AB u
theorem KN{y:Int}(h:BS s y=true)(k:s.k=4):0<=s.proc/\s.proc<y:=by
 unfold BS at h;rw[if_neg AB,if_neg AB,if_neg AB,if_pos k]at h;have:=of_decide_eq_true h;omega
theorem FB{j:World}{l e s:Nat}{v:Value}{d:List Value}(h:w.ownsRow l e s v n d)(o:Below w.heap.size w j):j.ownsRow l e s v n d:=by
 refine⟨h.1,?_⟩;rcases h.2 with h|⟨g,a,b,rfl,k,c,m⟩
 ·exact .inl h
 ·have p:g<w.heap.size:=(Cj.1 c).1
  exact .inr ⟨g,a,b,rfl,k,(o.block g p).trans c,m⟩
theorem He{l e s:Nat}{v:Value}{d:List Value}(h:w.ownsRow l e s v n d)(j:0<n):∃g c,v=Vs g n c:=by
 rcases h.2 with⟨_,rfl⟩|⟨g,a,b,rfl,_⟩
 ·omega
 ·exact⟨_,_,rfl⟩
theorem Dc(f:Nat)(w:World):Calls Tryz.prog 87 #[.func (.func f) #[] #[]] w fun e a=>e=.returned (.func (.func 125) #[] #[Vq w.heap.size])/\a=(w.alloc (.cells #[.func (.func f) #[] #[]] 164)):=by
 go_enter Tryz.func87,Tryz.ntmps87;go_wp2;go_ret;exact⟨rfl,rfl⟩
theorem GH(f:Nat)(w:World):Calls Tryz.prog 95 #[.func (.func f) #[] #[]] w fun e a=>e=.returned (.func (.func 128) #[] #[Vq w.heap.size])/\a=(w.alloc (.cells #[.func (.func f) #[] #[]] 164)):=by
 go_enter Tryz.func95,Tryz.ntmps95;go_wp2;go_ret;exact⟨rfl,rfl⟩
theorem KX(f:Nat)(w:World):Calls Tryz.prog 103 #[.func (.func f) #[] #[]] w fun e a=>e=.returned (.func (.func 131) #[] #[Vq w.heap.size])/\a=(w.alloc (.cells #[.func (.func f) #[] #[]] 184)):=by
 go_enter Tryz.func103,Tryz.ntmps103;go_wp2;go_ret;exact⟨rfl,rfl⟩
theorem IG(f:Nat)(k:Int)(w:World):Calls Tryz.prog 106 #[.int .u64 k,.func (.func f) #[] #[]] w fun e a=>e=.returned (.func (.func 133) #[] #[.pointer (some ⟨w.heap.size+1,0,none⟩),Vq w.heap.size])/\a=((w.alloc (.cells #[.int .u64 k] 74)).alloc (.cells #[.func (.func f) #[] #[]] 186)):=by
 go_enter Tryz.func106,Tryz.ntmps106;go_wp2;go_ret;exact⟨rfl,rfl⟩
theorem Gj(f:Nat)(k:Int)(w:World):Calls Tryz.prog 108 #[.int .u64 k,.func (.func f) #[] #[]] w fun e a=>e=.returned (.func (.func 135) #[] #[.pointer (some ⟨w.heap.size+1,0,none⟩),Vq w.heap.size])/\a=((w.alloc (.cells #[.int .u64 k] 74)).alloc (.cells #[.func (.func f) #[] #[]] 186)):=by
 go_enter Tryz.func108,Tryz.ntmps108;go_wp2;go_ret;exact⟨rfl,rfl⟩
theorem GD(f:Nat)(v:Bool)(w:World):Calls Tryz.prog 111 #[.func (.func f) #[] #[],.bool v] w fun e a=>e=.returned (.func (.func 136) #[] #[Vq w.heap.size,.pointer (some ⟨w.heap.size+1,0,none⟩)])/\a=((w.alloc (.cells #[.func (.func f) #[] #[]] 184)).alloc (.cells #[.bool v] 4)):=by
 go_enter Tryz.func111,Tryz.ntmps111;go_wp2;go_ret;exact⟨rfl,rfl⟩
end Go.Proofs.YtkckomianknjdaaGreat
