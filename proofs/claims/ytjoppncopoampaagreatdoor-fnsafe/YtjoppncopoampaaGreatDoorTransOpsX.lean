import Derived.Test.YtjoppncopoampaaGreatDoorOfCoreReg
import Derived.Test.YtjoppncopoampaaGreatDoorOfTransSame
import Derived.Test.YtjoppncopoampaaGreatDoorOfFlatAny
import Derived.Deep.CutBlock
set_option maxHeartbeats 40000000
set_option maxRecDepth 20000
namespace Go.Proofs.YtjoppncopoampaaGreatDoor
open Go.RowKit
variable {Z c z:Int}{B:Nat}{V:Nat->VV}{u:World}
theorem VU{w:World}{q:Nat}(h:Below B w u)(a:B<=q)(x:VV):Below B w (mP u q x):=by
 unfold mP;exact(((((h.setCell a _).setCell a _).setCell a _).setCell a _).setCell a _).setCell a _
def Gl(V:Nat->VV)(op:Int)(i:Nat):VV:=if Ap op 2 then V i else zV
def Gb(V:Nat->VV)(op:Int)(i:Nat):VV:=if Ap op 4 then V i else zV
def Jw(op z c:Int):Int:=if op=19 then z else if op=15∨op=20 then c else 1
def Gi(V:Nat->VV)(op z c:Int)(ia ib:Nat):Bool:=(Gl V op ia).s||(Gb V op ib).s||decide (Jw op z c=2)
theorem UJ(b:1<=Z)(a:Z<=28):Z=1∨Z=2∨Z=3∨Z=4∨Z=5∨Z=6∨Z=7∨Z=8∨Z=9∨Z=10∨Z=11∨Z=12∨Z=13∨Z=14∨Z=15∨Z=16∨Z=17∨Z=18∨Z=19∨Z=20∨Z=21∨Z=22∨Z=23∨Z=24∨Z=25∨Z=26∨Z=27∨Z=28:=AB
theorem wO(h:Ak u B 50 (fF V z c))(k:Nat)(b:k<8){x:VV}(e:V k=x):u.cell? (Va B (k*6))=some (Vi x.k)/\u.cell? (Va B (k*6+1))=some (.bool x.s)/\u.cell? (Va B (k*6+2))=some (Vi x.m)/\u.cell? (Va B (k*6+3))=some (Vi x.h)/\u.cell? (Va B (k*6+4))=some (Vi x.lo)/\u.cell? (Va B (k*6+5))=some (Vi x.hi):=by
 subst e;have g:=fun j(a:j<6)=>(h.cell (i:=k*6+j) AB).trans (congrArg some (FY V z c k j b a))
 exact⟨g 0 AB,g 1 AB,g 2 AB,g 3 AB,g 4 AB,g 5 AB⟩
theorem xq(h:Ak u B 50 (fF V z c)):u.cell? (Va B 48)=some (Vi z)/\u.cell? (Va B 49)=some (Vi c):=⟨h.cell (i:=48) AB,h.cell (i:=49) AB⟩
theorem gF.as{w:World}{d I C m h:Int}{a b a' b':VV}{K D:Int}{N:Bool}(p:gF w u V z c Z d I C m h a b K N)(e:a=a')(j:b=b')(k:K=D):gF w u V z c Z d I C m h a' b' D N:=by
 subst e j k;exact p
theorem yX(x y:Bool)(n:Int):x=true∨(x=false/\y=true)∨(x=false/\y=false/\(n==2)=true/\decide (n=2)=true)∨(x=false/\y=false/\(n==2)=false/\decide (n=2)=false):=by
 by_cases h:n=2<;>cases x<;>cases y<;>simp[h]
theorem xZ{K:Int}(h:(if Z=19 then z else if Z=15∨Z=20 then c else 1)=K):(((Z==19)=true/\K=z)∨((Z==19)=false/\(Z==15)=true/\K=c)∨((Z==19)=false/\(Z==15)=false/\(Z==20)=true/\K=c))∨((Z==19)=false/\(Z==15)=false/\(Z==20)=false/\1=K):=by
 by_cases a:Z=19
 ·simp[a]at h⊢
  exact h.symm
 by_cases b:Z=15
 ·simp[b]at h⊢
  exact h.symm
 by_cases d:Z=20<;>simp[a,b,d]at h⊢ <;>simp[h]
theorem O9(V:Nat->VV)(z c:Int)(FA:Array Value)(hF:FA=CX V z c)(o d q h:Int)(r x:Nat)(ha:r<8)(hb:x<8)(w:World):
 Calls Tryz.prog 143 #[.agg FA,.agg #[Vi o,Vi d,Vi (r:Int),Vi (x:Int),Vi q,Vi h]] w fun e w'=>e=.returned (.agg (oL (Gl V o r) (Gb V o x) (Jw o z c) (Gi V o z c r x)).toArray)/\Below w.heap.size w w':=by
 obtain⟨a,X⟩:=Au (Gl V o r);obtain⟨b,Y⟩:=Au (Gb V o x);obtain⟨S,hL⟩:=Au (Jw o z c);unfold Gi;rw[X,Y,hL];unfold Gl Ap at X;unfold Gb Ap at Y;unfold Jw at hL;replace hF:=EO hF;replace X:=EO X;replace Y:=EO Y;replace hL:=EO hL;go_enter Tryz.func143,Tryz.ntmps143;go_upto_region 2 with fail;obtain⟨u,hu,pu⟩:=si w V z c FA hF.out (op:=o) (d:=d) (ra:=(r:Int)) (rb:=(x:Int)) (imm:=q) (h:=h);rw[hu];have j:=EO pu;clear hu pu hF;have B:=Aa j.I;obtain⟨C,y,D,E,J,K,L,A,M,N,k,l,m,n⟩:=j.O.cells;have of:=j.O.2.1;have Q:=j.O.1;go_wp2_with fail;refine(Kj o _).mono ?_;rintro e w'⟨rfl,hw⟩;rw[hw];clear hw B of Q C y D E J K L A M N k l m n;go_upto_if 13 with fail;go_cut []from 7(fun U=>gF w U V z c o d (r:Int) (x:Int) q h a zV 1 false)
 case first=>
  by_cases eA:(bits .and .i64 (FE o) 2 !=0)=true
  ·obtain⟨f0,Z,f2,f3,f4,f5⟩:=wO j.F r ha ((if_pos eA).symm.trans X.out)
   have B:=Aa j.I;obtain⟨C,y,D,E,J,K,L,A,M,N,k,l,m,n⟩:=j.O.cells;have of:=j.O.2.1;have Q:=j.O.1;go_wp2;go_meet;exact j.upd (v:=Iy u (w.heap.size+1+1+1) a) (Ag BJ BQ _) (j.O.setA _)
  ·go_wp2
   go_meet;exact j.as ((if_neg eA).symm.trans X.out) rfl rfl
 case rest=>
 clear j;have j:=EO hcut;clear hcut;go_upto_if 22 with fail;go_cut []from 7(fun U=>gF w U V z c o d (r:Int) (x:Int) q h a b 1 false)
 case first=>
  by_cases eB:(bits .and .i64 (FE o) 4 !=0)=true
  ·obtain⟨f0,Z,f2,f3,f4,f5⟩:=wO j.F x hb ((if_pos eB).symm.trans Y.out)
   have B:=Aa j.I;obtain⟨C,y,D,E,J,K,L,A,M,N,k,l,m,n⟩:=j.O.cells;have of:=j.O.2.1;have Q:=j.O.1;go_wp2;go_meet;exact j.upd (v:=mP wc (w.heap.size+1+1+1) b) (VU BJ BQ _) (j.O.setB _)
  ·go_wp2
   go_meet;exact j.as rfl ((if_neg eB).symm.trans Y.out) rfl
 case rest=>
 clear j;have j:=EO hcut;clear hcut;have B:=Aa j.I;obtain⟨C,y,D,E,J,K,L,A,M,N,k,l,m,n⟩:=j.O.cells;have of:=j.O.2.1;have Q:=j.O.1;obtain⟨f0,Z⟩:=xq j.F;go_upto_block 0 with fail;go_cut []from 7(fun U=>gF w U V z c o d (r:Int) (x:Int) q h a b S false)
 case first=>
  rcases xZ hL.out with(⟨e1,e⟩|⟨e1,e2,e⟩|⟨e1,e2,e3,e⟩)|⟨e1,e2,e3,e⟩
  ·rw[<-e]at f0
   clear e;go_wp2;go_meet;exact j.upd (BJ.setCell (p:=⟨w.heap.size+1+1+1,12,none⟩) BQ _) (j.O.setF _)
  ·rw[<-e]at Z
   clear e;go_wp2;go_meet;exact j.upd (BJ.setCell (p:=⟨w.heap.size+1+1+1,12,none⟩) BQ _) (j.O.setF _)
  ·rw[<-e]at Z
   clear e;go_wp2;go_meet;exact j.upd (BJ.setCell (p:=⟨w.heap.size+1+1+1,12,none⟩) BQ _) (j.O.setF _)
  ·replace e:=EO e
   go_wp2;go_meet;exact j.as rfl rfl e.out
 case rest=>
 clear j f0 Z B of Q C y D E J K L A M N k l m n;have j:=EO hcut;clear hcut;have B:=Aa j.I;obtain⟨C,y,D,E,J,K,L,A,M,N,k,l,m,n⟩:=j.O.cells;have of:=j.O.2.1;have Q:=j.O.1;go_upto_region 13 with fail;go_cut []from 7(fun U=>gF w U V z c o d (r:Int) (x:Int) q h a b S (a.s||b.s||decide (S=2)))
 case first=>
  rcases yX a.s b.s S with h1|⟨h1,h2⟩|⟨h1,h2,h3⟩|⟨h1,h2,h3⟩;all_goals(
   rw[h1]at y;try rw[h2]at A
   go_wp2;go_meet;exact j.upd (BJ.setCell (p:=⟨w.heap.size+1+1+1,13,none⟩) BQ _) (by simpa[*]using j.O.setS (a.s||b.s||decide (S=2))))
 case rest=>
 clear j B of Q C y D E J K L A M N k l m n;have P:=EO hcut;clear hcut;have B:=Aa P.I;obtain⟨C,y,D,E,J,K,L,A,M,N,k,l,m,n⟩:=P.O.cells;have of:=P.O.2.1;have Q:=P.O.1;have r0:=P.R.cells;have rf:=P.R.2.1;have rl:=P.R.1;go_wp2;exact bodyPost_ret (v:=.agg (oL a b S (a.s||b.s||decide (S=2))).toArray) (by simp[results,Tryz.results143,go_sem,oL, *]) rfl ⟨rfl,by(iterate 14 refine Below.setCell ?_ (show w.heap.size<=w.heap.size+1+1 by omega) _);exact P.bel⟩
end Go.Proofs.YtjoppncopoampaaGreatDoor
