import Derived.Test.YtlkjdanoejdgbaaGreatOfRunMath
import Derived.Test.YtlkjdanoejdgbaaGreatOfEvRun
import Derived.Test.YtlkjdanoejdgbaaGreatOfSpecOff
import Derived.Deep.MidRow
namespace Go.Proofs.YtlkjdanoejdgbaaGreat
open Go.RowKit
structure RV where
 M:MV
 used:Int
 out:Bool
def RV.go(r:RV):Prop:=r.out=false/\r.M.st=0
def RV.goB(r:RV):Bool:=!r.out&&decide (r.M.st=0)
theorem RV.goB_iff{r:RV}:r.goB=true↔r.go:=by simp[RV.goB,RV.go]
theorem RV.goB_yes{r:RV}(h:r.go):r.goB=true:=RV.goB_iff.2 h
theorem RV.goB_nt{r:RV}(h:¬r.go):¬r.goB=true:=fun q=>h (RV.goB_iff.1 q)
theorem RV.goB_no{r:RV}(h:¬r.go):r.goB=false:=by simpa using RV.goB_nt h
def doS(s:SV)(M:MV):MV:=doM s.op.toNat s.d.toNat s.a.toNat s.b.toNat s.h.toNat s.imm M
def spR(fu:Int)(r:RV):RV:=if r.used=fu then{r with out:=true}else{r with used:=r.used+1}
def insR(fu:Int)(s:SV)(r:RV):RV:=if r.used=fu then{r with out:=true}else{M:=doS s r.M,used:=r.used+1,out:=r.out}
def hasC(c:Int)(M:MV):Bool:=if c<=2 then M.hz else M.hc
def holdC(c:Int)(M:MV):Bool:=if c<=2 then M.z==decide (c=1)else M.c==decide (c=3)
def lookM(c:Int)(M:MV):MV:=if hasC c M then M.see 2 (if holdC c M then 0 else 1)else M.fault
def lookR(fu:Int)(c:Int)(r:RV):RV×Bool:=
 if r.used=fu then({r with out:=true},false)else({M:=lookM c r.M,used:=r.used+1,out:=r.out},hasC c r.M&&holdC c r.M)
def nxt(L:Nat->SV)(i:Nat):Nat:=i+1+(L i).thn.toNat+(L i).els.toNat
structure EvLe(L:Nat->SV)(fu:Int)(P:Nat->Nat->RV->RV->Prop):Prop where
 stop:∀{i te:Nat}{r:RV},¬(i<te/\r.go)->P i te r r
 ins:∀{i te:Nat}{r r':RV},i<te->r.go->(L i).k=1->P (nxt L i) te (insR fu (L i) r) r'->P i te r r'
 yes:∀{i te:Nat}{r r1 r2 r':RV},i<te->r.go->(L i).k=2->lookR fu (L i).cond r=(r1,true)->P (i+1) (i+1+(L i).thn.toNat) r1 r2->P (nxt L i) te r2 r'->P i te r r'
 no:∀{i te:Nat}{r r1 r2 r':RV},i<te->r.go->(L i).k=2->lookR fu (L i).cond r=(r1,false)->P (i+1+(L i).thn.toNat) (nxt L i) r1 r2->P (nxt L i) te r2 r'->P i te r r'
 more:∀{i te:Nat}{r r1 r2 r':RV},i<te->r.go->(L i).k=3->lookR fu (L i).cond r=(r1,true)->P (i+1) (i+1+(L i).thn.toNat) r1 r2->P i te r2 r'->P i te r r'
 done:∀{i te:Nat}{r r1 r':RV},i<te->r.go->(L i).k=3->lookR fu (L i).cond r=(r1,false)->P (nxt L i) te r1 r'->P i te r r'
def Ev(L:Nat->SV)(fu:Int)(i te:Nat)(r r':RV):Prop:=∀P,EvLe L fu P->P i te r r'
theorem Ev.cl(L:Nat->SV)(fu:Int):EvLe L fu (Ev L fu):=⟨fun h _ c=>c.stop h,fun a b k h P c=>c.ins a b k (h P c),fun a b k l x y P c=>c.yes a b k l (x P c) (y P c),fun a b k l x y P c=>c.no a b k l (x P c) (y P c),fun a b k l x y P c=>c.more a b k l (x P c) (y P c),fun a b k l x P c=>c.done a b k l (x P c)⟩
theorem Ev.stop{L:Nat->SV}{fu:Int}{i te:Nat}{r:RV}(h:¬(i<te/\r.go)):Ev L fu i te r r:=(Ev.cl L fu).stop h
theorem Ev.ins{L:Nat->SV}{fu:Int}{i te:Nat}{r r':RV}(a:i<te)(b:r.go)(k:(L i).k=1)(x:Ev L fu (nxt L i) te (insR fu (L i) r) r'):Ev L fu i te r r':=(Ev.cl L fu).ins a b k x
theorem Ev.yes{L:Nat->SV}{fu:Int}{i te:Nat}{r r1 r2 r':RV}(a:i<te)(b:r.go)(k:(L i).k=2)(l:lookR fu (L i).cond r=(r1,true))(x:Ev L fu (i+1) (i+1+(L i).thn.toNat) r1 r2)(y:Ev L fu (nxt L i) te r2 r'):Ev L fu i te r r':=(Ev.cl L fu).yes a b k l x y
theorem Ev.no{L:Nat->SV}{fu:Int}{i te:Nat}{r r1 r2 r':RV}(a:i<te)(b:r.go)(k:(L i).k=2)(l:lookR fu (L i).cond r=(r1,false))(x:Ev L fu (i+1+(L i).thn.toNat) (nxt L i) r1 r2)(y:Ev L fu (nxt L i) te r2 r'):Ev L fu i te r r':=(Ev.cl L fu).no a b k l x y
theorem Ev.more{L:Nat->SV}{fu:Int}{i te:Nat}{r r1 r2 r':RV}(a:i<te)(b:r.go)(k:(L i).k=3)(l:lookR fu (L i).cond r=(r1,true))(x:Ev L fu (i+1) (i+1+(L i).thn.toNat) r1 r2)(y:Ev L fu i te r2 r'):Ev L fu i te r r':=(Ev.cl L fu).more a b k l x y
theorem Ev.done{L:Nat->SV}{fu:Int}{i te:Nat}{r r1 r':RV}(a:i<te)(b:r.go)(k:(L i).k=3)(l:lookR fu (L i).cond r=(r1,false))(x:Ev L fu (nxt L i) te r1 r'):Ev L fu i te r r':=(Ev.cl L fu).done a b k l x
structure EvI(L:Nat->SV)(fu:Int)(i te:Nat)(r r':RV):Prop where
 me:Ev L fu i te r r'
 stop:¬(i<te/\r.go)->r'=r
 ins:i<te->r.go->(L i).k=1->Ev L fu (nxt L i) te (insR fu (L i) r) r'
 yes:i<te->r.go->(L i).k=2->∀{r1},lookR fu (L i).cond r=(r1,true)->∃r2,Ev L fu (i+1) (i+1+(L i).thn.toNat) r1 r2/\Ev L fu (nxt L i) te r2 r'
 no:i<te->r.go->(L i).k=2->∀{r1},lookR fu (L i).cond r=(r1,false)->∃r2,Ev L fu (i+1+(L i).thn.toNat) (nxt L i) r1 r2/\Ev L fu (nxt L i) te r2 r'
 more:i<te->r.go->(L i).k=3->∀{r1},lookR fu (L i).cond r=(r1,true)->∃r2,Ev L fu (i+1) (i+1+(L i).thn.toNat) r1 r2/\Ev L fu i te r2 r'
 done:i<te->r.go->(L i).k=3->∀{r1},lookR fu (L i).cond r=(r1,false)->Ev L fu (nxt L i) te r1 r'
theorem Ev.inv{L:Nat->SV}{fu:Int}{i te:Nat}{r r':RV}(h:Ev L fu i te r r'):EvI L fu i te r r':=by
 have fl:∀{a:RV×Bool}{x y:RV},a=(x,true)->a=(y,false)->False:=fun p q=>by rw[p]at q;cases(Prod.mk.inj q).2
 have sm:∀{a:RV×Bool}{x y:RV}{b:Bool},a=(x,b)->a=(y,b)->x=y:=fun p q=>by rw[p]at q;exact(Prod.mk.inj q).1
 refine h (EvI L fu) ⟨?_,?_,?_,?_,?_,?_⟩
 ·intro i te r n
  exact⟨.stop n,fun _=>rfl,fun a b=>absurd ⟨a,b⟩ n,fun a b=>absurd ⟨a,b⟩ n,fun a b=>absurd ⟨a,b⟩ n,fun a b=>absurd ⟨a,b⟩ n,fun a b=>absurd ⟨a,b⟩ n⟩
 ·intro i te r r' a b k x
  exact⟨.ins a b k x.me,fun n=>absurd ⟨a,b⟩ n,fun _ _ _=>x.me,fun _ _ q=>by omega,fun _ _ q=>by omega,fun _ _ q=>by omega,fun _ _ q=>by omega⟩
 ·intro i te r r1 r2 r' a b k l x y
  exact⟨.yes a b k l x.me y.me,fun n=>absurd ⟨a,b⟩ n,fun _ _ q=>by omega,fun _ _ _ _ e=>by obtain rfl:=sm l e;exact⟨_,x.me,y.me⟩,fun _ _ _ _ e=>(fl l e).elim,fun _ _ q=>by omega,fun _ _ q=>by omega⟩
 ·intro i te r r1 r2 r' a b k l x y
  exact⟨.no a b k l x.me y.me,fun n=>absurd ⟨a,b⟩ n,fun _ _ q=>by omega,fun _ _ _ _ e=>(fl e l).elim,fun _ _ _ _ e=>by obtain rfl:=sm l e;exact⟨_,x.me,y.me⟩,fun _ _ q=>by omega,fun _ _ q=>by omega⟩
 ·intro i te r r1 r2 r' a b k l x y
  exact⟨.more a b k l x.me y.me,fun n=>absurd ⟨a,b⟩ n,fun _ _ q=>by omega,fun _ _ q=>by omega,fun _ _ q=>by omega,fun _ _ _ _ e=>by obtain rfl:=sm l e;exact⟨_,x.me,y.me⟩,fun _ _ _ _ e=>(fl l e).elim⟩
 ·intro i te r r1 r' a b k l x
  exact⟨.done a b k l x.me,fun n=>absurd ⟨a,b⟩ n,fun _ _ q=>by omega,fun _ _ q=>by omega,fun _ _ q=>by omega,fun _ _ _ _ e=>(fl e l).elim,fun _ _ _ _ e=>by obtain rfl:=sm l e;exact x.me⟩
theorem Ev.det{L:Nat->SV}{fu:Int}{i te:Nat}{r a:RV}(h:Ev L fu i te r a):∀{b:RV},Ev L fu i te r b->a=b:=by
 have two:∀{i te j s:Nat}{r1 r2 r' b:RV},(∀b,Ev L fu i te r1 b->r2=b)->(∀b,Ev L fu j s r2 b->r'=b)->(∃q,Ev L fu i te r1 q/\Ev L fu j s q b)->r'=b:=fun x y z=>by
  obtain⟨q,z1,z2⟩:=z;obtain rfl:=x q z1;exact y _ z2
 have H:=h (fun i te r a=>∀b,Ev L fu i te r b->a=b) ⟨fun n b hb=>(hb.inv.stop n).symm,fun a b k x c hc=>x c (hc.inv.ins a b k),fun a b k l x y c hc=>two x y (hc.inv.yes a b k l),fun a b k l x y c hc=>two x y (hc.inv.no a b k l),fun a b k l x y c hc=>two x y (hc.inv.more a b k l),fun a b k l x c hc=>x c (hc.inv.done a b k l)⟩;exact fun{b}hb=>H b hb
structure RGood(fu:Int)(B:Nat)(r:RV):Prop where
 ok:r.M.Ok
 u0:0<=r.used
 u1:r.used<=fu
 seen:(r.M.nO:Int)<=B+r.used
theorem doM_ok{M:MV}(hk:M.Ok)(op d a b h:Nat)(imm:Int)(ha:a<8)(hb:b<8):(doM op d a b h imm M).Ok/\(doM op d a b h imm M).nO<=M.nO+1:=by
 have h1:=exec_ok hk op d a b h imm 0 ha hb;have h2:=exec_sz op d a b h imm M 0;unfold doM;generalize exec op d a b h imm M 0=o at h1 h2;cases o with
 |inl q=>obtain⟨M',nx⟩:=q;exact⟨h1,h2.2.2⟩
 |inr M'=>exact⟨MV.Ok.faulted h1,h2.2.2⟩
theorem st_ins{s:SV}{procs:Int}(h:stOK s procs=true)(hk:s.k=1):implIns s.op s.d s.a s.b s.imm s.h=true/\s.op<29:=by
 unfold stOK at h;rw[if_pos hk]at h;simp only[Bool.and_eq_true,decide_eq_true_eq]at h;exact⟨h.1,h.2.1⟩
theorem st_cond{s:SV}{procs:Int}(h:stOK s procs=true)(hk:s.k=2∨s.k=3):1<=s.cond/\s.cond<=4:=by
 unfold stOK at h;rcases hk with hk|hk
 ·rw[if_neg (by omega),if_pos hk]at h
  simp only[decide_eq_true_eq]at h;exact⟨h.2.1,h.2.2.1⟩
 ·rw[if_neg (by omega),if_neg (by omega),if_pos hk]at h
  simp only[decide_eq_true_eq]at h;exact⟨h.2.1,h.2.2.1⟩
theorem RGood.ins{fu:Int}{B:Nat}{r:RV}(h:RGood fu B r){s:SV}(hs:implIns s.op s.d s.a s.b s.imm s.h=true):RGood fu B (insR fu s r):=by
 obtain⟨_,⟨d1,d2⟩,⟨x1,x2⟩,⟨y1,y2⟩,_⟩:=ins_range hs;have k:=doM_ok h.ok s.op.toNat s.d.toNat s.a.toNat s.b.toNat s.h.toNat s.imm (by omega) (by omega);have h0:=h.u0;have h1:=h.u1;have h2:=h.seen;unfold insR;split
 ·exact⟨h.ok,h.u0,h.u1,h.seen⟩
 ·refine⟨k.1,?_,?_,?_⟩
  ·show 0<=r.used+1;omega
  ·show r.used+1<=fu;omega
  ·have:=k.2
   show((doS s r.M).nO:Int)<=B+(r.used+1);unfold doS;omega
theorem lookM_ok{M:MV}(hk:M.Ok)(c:Int):(lookM c M).Ok/\(lookM c M).nO<=M.nO+1:=by
 unfold lookM;split
 ·exact⟨hk.seen _ _,Nat.le_refl _⟩
 ·exact⟨MV.Ok.faulted hk,Nat.le_succ _⟩
theorem RGood.look{fu:Int}{B:Nat}{r:RV}(h:RGood fu B r)(c:Int):RGood fu B (lookR fu c r).1:=by
 have k:=lookM_ok h.ok c;have h0:=h.u0;have h1:=h.u1;have h2:=h.seen;unfold lookR;split
 ·exact⟨h.ok,h.u0,h.u1,h.seen⟩
 ·refine⟨k.1,?_,?_,?_⟩
  ·show 0<=r.used+1;omega
  ·show r.used+1<=fu;omega
  ·have:=k.2
   show((lookM c r.M).nO:Int)<=B+(r.used+1);omega
theorem look_yes{fu c:Int}{r r1:RV}(h:lookR fu c r=(r1,true))(hg:r.go):r1.used=r.used+1/\r1.go:=by
 unfold lookR at h;split at h
 ·cases(Prod.mk.inj h).2
 ·obtain⟨h1,h2⟩:=Prod.mk.inj h
  simp only[Bool.and_eq_true]at h2;subst h1;refine⟨rfl,hg.1,?_⟩;show(lookM c r.M).st=0;unfold lookM;rw[if_pos h2.1];exact hg.2
theorem Ev.mono{L:Nat->SV}{fu:Int}{i te:Nat}{r a:RV}(h:Ev L fu i te r a):r.used<=a.used:=by
 have hi:∀s r,r.used<=(insR fu s r).used:=fun s r=>by unfold insR;split<;>simp<;>omega
 have hl:∀{c r r1 b},lookR fu c r=(r1,b)->r.used<=r1.used:=fun{c r r1 b}h=>by
  have e:=congrArg Prod.fst h;simp only at e;rw[<-e];unfold lookR;split<;>simp<;>omega
 exact h (fun _ _ r a=>r.used<=a.used) ⟨fun _=>Int.le_refl _,fun _ _ _ ih=>Int.le_trans (hi _ _) ih,fun _ _ _ h a b=>Int.le_trans (hl h) (Int.le_trans a b),fun _ _ _ h a b=>Int.le_trans (hl h) (Int.le_trans a b),fun _ _ _ h a b=>Int.le_trans (hl h) (Int.le_trans a b),fun _ _ _ h a=>Int.le_trans (hl h) a⟩
def MV.at(M:MV)(x:Int):MV:={M with pc:=x}
def Outc.at(x:Int):Outc->Outc
 |.inl (M,n)=>.done (M.at x) n
 |.inr M=>.flt (M.at x)
theorem poke_at(M:MV)(x:Int)(h o:Nat)(v:Int):∀k,(M.at x).pokeN h o v k=(M.pokeN h o v k).at x
 |0=>rfl
 |k+1=>by show((M.at x).pokeN h o v k).poke _ _ _=_;rw[poke_at M x h o v k];rfl
theorem memOp_at(s:Bool)(wd:Nat)(A:Int)(d h:Nat)(M:MV)(x nx:Int):memOp s wd A d h (M.at x) nx=(memOp s wd A d h M nx).at x:=by
 unfold memOp;by_cases h1:M.nH<=h
 ·rw[if_pos h1,if_pos (show(M.at x).nH<=h from h1)];rfl
 ·rw[if_neg h1,if_neg (show¬(M.at x).nH<=h from h1)]
  by_cases h2:(lies (M.Hp h).base A wd (M.Hp h).len&&(!s||(M.Hp h).wr))=true
  ·rw[if_pos h2,if_pos (show(lies ((M.at x).Hp h).base A wd ((M.at x).Hp h).len&&(!s||((M.at x).Hp h).wr))=true from h2)]
   cases s with
   |true=>exact congrArg (fun q=>Outc.done q nx) (poke_at (M.see 1 A) x h _ _ wd)
   |false=>rfl
  ·rw[if_neg h2,if_neg (show¬(lies ((M.at x).Hp h).base A wd ((M.at x).Hp h).len&&(!s||((M.at x).Hp h).wr))=true from h2)];rfl
theorem exec_at(op d a b h:Nat)(imm:Int)(M:MV)(x nx:Int)(h1:1<=op)(h2:op<=28):exec op d a b h imm (M.at x) nx=(exec op d a b h imm M nx).at x:=by
 have hc:op=1∨op=2∨op=3∨op=4∨op=5∨op=6∨op=7∨op=8∨op=9∨op=10∨op=11∨op=12∨op=13∨op=14∨op=15∨op=16∨op=17∨op=18∨op=19∨op=20∨op=21∨op=22∨op=23∨op=24∨op=25∨op=26∨op=27∨op=28:=by omega
 rcases hc with rfl|rfl|rfl|rfl|rfl|rfl|rfl|rfl|rfl|rfl|rfl|rfl|rfl|rfl|rfl|rfl|rfl|rfl|rfl|rfl|rfl|rfl|rfl|rfl|rfl|rfl|rfl|rfl;all_goals first
  |rfl
  |exact memOp_at _ _ _ _ _ _ _ _
  |(show(if M.hc=true then _ else _)=Outc.at x (if M.hc=true then _ else _)
    cases M.hc<;>rfl)
  |(show(if M.hz=true then _ else _)=Outc.at x (if M.hz=true then _ else _)
    cases M.hz<;>rfl)
theorem step_doS(M:MV)(F:Nat->Nat->Int){s:SV}(h1:1<=s.op)(h2:s.op<=28)(f0:F 0 0=s.op)(f1:F 0 1=s.d)(f2:F 0 2=s.a)(f3:F 0 3=s.b)(f4:F 0 4=s.imm)(f5:F 0 5=s.h):
 ∃x,stepM 1 F (M.at 0)=(doS s M).at x:=by
 rw[stepM_in 1 F (M.at 0) (by show¬((1:Nat):Int)<=0;omega)];show∃x,afterS (exec (F (0:Int).toNat 0).toNat (F (0:Int).toNat 1).toNat (F (0:Int).toNat 2).toNat (F (0:Int).toNat 3).toNat (F (0:Int).toNat 5).toNat (F (0:Int).toNat 4) (M.at 0) 1)=_;rw[show(0:Int).toNat=0 from rfl,f0,f1,f2,f3,f4,f5,exec_at _ _ _ _ _ _ _ _ _ (by omega) (by omega)];have e:=exec_plain s.op.toNat s.d.toNat s.a.toNat s.b.toNat s.h.toNat s.imm M (by omega) (by omega);unfold doS doM;rcases e with⟨M',he,_,_⟩|⟨M',he⟩
 ·rw[he,he];exact⟨1,rfl⟩
 ·rw[he,he];exact⟨0,rfl⟩
theorem step_look(M:MV)(F:Nat->Nat->Int){c:Int}(c1:1<=c)(c2:c<=4)(f0:F 0 0=notI c)(f4:F 0 4=0):
 ∃x,stepM 1 F (M.at 0)=(lookM c M).at x/\(x=0↔(hasC c M&&holdC c M)=false):=by
 rw[stepM_in 1 F (M.at 0) (by show¬((1:Nat):Int)<=0;omega)];show∃x,afterS (exec (F (0:Int).toNat 0).toNat (F (0:Int).toNat 1).toNat (F (0:Int).toNat 2).toNat (F (0:Int).toNat 3).toNat (F (0:Int).toNat 5).toNat (F (0:Int).toNat 4) (M.at 0) 1)=_/\_;rw[show(0:Int).toNat=0 from rfl,f0,f4];have hc:c=1∨c=2∨c=3∨c=4:=by omega
 rcases hc with rfl|rfl|rfl|rfl
 ·show∃x,afterS (jumpOp M.hz M.z false 0 (M.at 0) 1)=(if M.hz=true then M.see 2 (if(M.z==true)=true then 0 else 1)else M.fault).at x/\(x=0↔(M.hz&&(M.z==true))=false)
  cases M.hz<;>cases M.z<;>first|exact⟨0,rfl,by simp⟩|exact⟨1,rfl,by simp⟩
 ·show∃x,afterS (jumpOp M.hz M.z true 0 (M.at 0) 1)=(if M.hz=true then M.see 2 (if(M.z==false)=true then 0 else 1)else M.fault).at x/\(x=0↔(M.hz&&(M.z==false))=false)
  cases M.hz<;>cases M.z<;>first|exact⟨0,rfl,by simp⟩|exact⟨1,rfl,by simp⟩
 ·show∃x,afterS (jumpOp M.hc M.c false 0 (M.at 0) 1)=(if M.hc=true then M.see 2 (if(M.c==true)=true then 0 else 1)else M.fault).at x/\(x=0↔(M.hc&&(M.c==true))=false)
  cases M.hc<;>cases M.c<;>first|exact⟨0,rfl,by simp⟩|exact⟨1,rfl,by simp⟩
 ·show∃x,afterS (jumpOp M.hc M.c true 0 (M.at 0) 1)=(if M.hc=true then M.see 2 (if(M.c==false)=true then 0 else 1)else M.fault).at x/\(x=0↔(M.hc&&(M.c==false))=false)
  cases M.hc<;>cases M.c<;>first|exact⟨0,rfl,by simp⟩|exact⟨1,rfl,by simp⟩
theorem eq_cell{w:World}{p:Nat}{cs:Array Value}{t:TypeId}{fz:Nat×Nat}(h:w.heap[p]?=some (.cells cs t fz))(j:Nat):w.cell? ⟨p,j,none⟩=cs[j]?:=by
 unfold World.cell?;simp only[h];rfl
theorem eq_free{w:World}{p:Nat}{cs:Array Value}{t:TypeId}(h:w.heap[p]?=some (.cells cs t))(j:Nat):w.frozen? ⟨p,j,none⟩=false:=by
 unfold World.frozen?;simp[h]
theorem eq_set{w:World}{p:Nat}{cs:Array Value}{t:TypeId}(h:w.heap[p]?=some (.cells cs t))(j:Nat)(v:Value):(w.setCell ⟨p,j,none⟩ v).heap[p]?=some (.cells (cs.setIfInBounds j v) t):=by
 unfold World.setCell;rw[Array.getElem?_modify,if_pos rfl,h];rfl
theorem eq_new(w:World)(o:Obj):(w.alloc o).heap[w.heap.size]?=some o:=by simp only[World.alloc];simp
def putL:Array Value->Nat->List Value->Array Value
 |a,_,[]=>a
 |a,o,v::vs=>putL (a.setIfInBounds o v) (o+1) vs
theorem eq_sets{q:Nat}{t:TypeId}:∀(vs:List Value)(o:Nat){w:World}{cs:Array Value},w.heap[q]?=some (.cells cs t)->(w.setCells q o vs).heap[q]?=some (.cells (putL cs o vs) t)
 |[],_,_,_,h=>h
 |v::vs,o,_,_,h=>eq_sets vs (o+1) (eq_set h o v)
theorem Ft.sets{q:Nat}{w:World}:∀(vs:List Value)(o:Nat){u:World},Ft q w u->Ft q w (u.setCells q o vs)
 |[],_,_,h=>h
 |v::vs,o,_,h=>Ft.sets vs (o+1) (Ft.set h o v)
theorem wpList_store_at{P:Program}{ops:Array Oper}{rest:List Oper}{op:Oper}{a:Act}{w:World}{Q:Exit->Act->World->Prop}(hgd:op.guard=none)(ty:TypeId)(x y:Operand)(ho:op.op=.store ty x y)
 (q:Nat)(old new:Array Value)(t:TypeId)(hx:a.eval x=.pointer (some ⟨q,0,none⟩))(hy:a.eval y=.agg new)(hq:w.heap[q]?=some (.cells old t))(hs:new.size<=old.size)(hi:(P.info? ty).map (·.size)=some new.size)(h1:new.all (·.oneCell')=true)
 (h:∀u,u.heap[q]?=some (.cells (putL old 0 new.toList) t)->Ft q w u->u.heap.size=w.heap.size->Hid (wpList P ops Q rest (a.put op.dst undef) u)):wpList P ops Q (op::rest) a w:=by
 refine wpList_store_mid hgd ty x y ho q 0 new hx hy (fun j hj=>?_) hi h1 (h _ (eq_sets _ 0 hq) (Ft.sets _ _ (Ft.refl _ _)) (size_setCells ..));rw[Nat.zero_add];refine⟨?_,eq_free hq j⟩;rw[eq_cell hq j,Array.getElem?_eq_getElem (by omega)];rfl
theorem wpL_store_at{P:Program}{op:Oper}{a:Act}{w:World}{K:Act->World->Prop}{Q:Exit->Act->World->Prop}(ty:TypeId)(x y:Operand)(ho:op.op=.store ty x y)
 (q:Nat)(old new:Array Value)(t:TypeId)(hx:a.eval x=.pointer (some ⟨q,0,none⟩))(hy:a.eval y=.agg new)(hq:w.heap[q]?=some (.cells old t))(hs:new.size<=old.size)(hi:(P.info? ty).map (·.size)=some new.size)(h1:new.all (·.oneCell')=true)
 (h:∀u,u.heap[q]?=some (.cells (putL old 0 new.toList) t)->Ft q w u->u.heap.size=w.heap.size->K (a.put op.dst undef) u):op.wp P a w K Q:=by
 refine wp_store_mid ty x y ho q 0 new hx hy (fun j hj=>?_) hi h1 (h _ (eq_sets _ 0 hq) (Ft.sets _ _ (Ft.refl _ _)) (size_setCells ..));rw[Nat.zero_add];refine⟨?_,eq_free hq j⟩;rw[eq_cell hq j,Array.getElem?_eq_getElem (by omega)];rfl
theorem load_at{P:Program}{w:World}{q:Nat}{cs:Array Value}{t:TypeId}(hq:w.heap[q]?=some (.cells cs t))(ty:TypeId)(d:TypeDesc)(hu:P.underlying ty=some d)(hd:d.isRow=true)(hi:(P.info? ty).map (·.size)=some cs.size):(loadVar ty ⟨q,0,none⟩).run P w=.ok (.agg cs) w:=by
 have:=run_loadVar_mid (P:=P) w q 0 ty cs.toList d (fun j v hv=>by rw[Nat.zero_add,eq_cell hq j];simpa using hv) hu hd (by simpa using hi);simpa using this
theorem wpList_load_at{P:Program}{ops:Array Oper}{rest:List Oper}{op:Oper}{a:Act}{w:World}{Q:Exit->Act->World->Prop}(hgd:op.guard=none)(ty:TypeId)(x:Operand)(ho:op.op=.load ty x)
 (q:Nat)(cs:Array Value)(t:TypeId)(d:TypeDesc)(hx:a.eval x=.pointer (some ⟨q,0,none⟩))(hq:w.heap[q]?=some (.cells cs t))(hu:P.underlying ty=some d)(hd:d.isRow=true)(hi:(P.info? ty).map (·.size)=some cs.size)
 (h:wpList P ops Q rest (a.put op.dst (.agg cs)) w):wpList P ops Q (op::rest) a w:=by
 refine wpList_load_mid hgd ty x ho q 0 hx cs.toList d (fun j v hv=>?_) hu hd (by simpa using hi) (by simpa using h);rw[Nat.zero_add,eq_cell hq j];simpa using hv
theorem Mem.off{w u:World}{base q:Nat}{p:Pl}{M:MV}(h:Mem w base p M)(f:Ft q w u){cur:Array Value}{ty:Nat}{fr:Nat×Nat}(hq:w.heap[q]?=some (.cells cur ty fr))(n1:ty≠91)(n2:ty≠99)(n3:ty≠5)(n4:ty≠102):Mem u base p M:=by
 have key:∀{e size n:Nat}{v:Value}{xs:List Value},ty≠e->w.ownsRow base e size v n xs->u.ownsRow base e size v n xs:=fun hne hr=>
  row_at hr fun k hk=>f.block k (hr.lt k hk).2 fun e=>by subst e;exact row_not hr hq hne hk
 exact⟨key n1 h.regs,key n2 h.heaps,fun i hi=>key n3 (h.data i hi),key n4 h.obs,h.ne⟩
theorem Kept.ft{w0 w u:World}{q:Nat}(h:Kept w0 w)(hz:w0.heap.size<=w.heap.size)(f:Ft q w u)(hq:w0.heap.size<=q):Kept w0 u:=fun k cur ty fr hk n1 n2 n3 n4=>by
 have hl:=Kept.lt hk;exact(f.block k (by omega) (by omega)).trans (h k cur ty fr hk n1 n2 n3 n4)
theorem below_ft{B:Nat}{w0 w u:World}{q:Nat}(h:Below B w0 w)(f:Ft q w u)(hB:B<=w.heap.size)(hq:B<=q):Below B w0 u:=
 h.trans ⟨f.os,f.tape,f.output,f.size,fun k hk=>f.block k (by omega) (by omega)⟩
def rA(p:Pl)(fu:Int)(r:RV):Array Value:=#[.slice (some ⟨p.bR,0,none⟩) 8 p.cR,.bool r.M.z,.bool r.M.c,.bool r.M.hz,.bool r.M.hc,.slice p.aH r.M.nH p.cH,.int .i64 r.M.pc,.int .i64 r.M.st,.slice p.aO r.M.nO p.cO,.int .i64 r.used,.int .i64 fu,.bool r.out]
def mA(p:Pl)(M:MV):Array Value:=#[.slice (some ⟨p.bR,0,none⟩) 8 p.cR,.bool M.z,.bool M.c,.bool M.hz,.bool M.hc,.slice p.aH M.nH p.cH,.int .i64 M.pc,.int .i64 M.st,.slice p.aO M.nO p.cO]
def zA:Array Value:=#[.slice none 0 0,.bool false,.bool false,.bool false,.bool false,.slice none 0 0,.int .i64 0,.int .i64 0,.slice none 0 0,.int .i64 0,.int .i64 0,.bool false]
structure EW(w0:World)(base q:Nat)(fu:Int)(u:World)(p:Pl)(r:RV):Prop where
 B:Below base w0 u
 K:Kept w0 u
 Q:u.heap[q]?=some (.cells (rA p fu r) 54)
 M:Mem u base p r.M
 q0:w0.heap.size<=q
 bs:base<=w0.heap.size
section
variable{w0 u v:World}{base q:Nat}{fu:Int}{p p':Pl}{r r':RV}
theorem EW.lt(h:EW w0 base q fu u p r):q<u.heap.size:=(Array.getElem?_eq_some_iff.1 h.Q).1
theorem EW.below(h:EW w0 base q fu u p r)(b:Below u.heap.size u v):EW w0 base q fu v p r:=
 ⟨h.B.trans (b.mono (Nat.le_trans h.bs h.B.size)),fun k cur ty fr hk n1 n2 n3 n4=>(b.block k (Nat.lt_of_lt_of_le (Kept.lt hk) h.B.size)).trans (h.K k cur ty fr hk n1 n2 n3 n4),(b.block q h.lt).trans h.Q,h.M.below b,h.q0,h.bs⟩
theorem EW.kept(h:EW w0 base q fu u p r)(k:Kept u v):v.heap[q]?=some (.cells (rA p fu r) 54):=
 (k q _ _ _ h.Q (by decide) (by decide) (by decide) (by decide)).trans h.Q
theorem EW.put{u':World}(h:EW w0 base q fu u p r)(b:Below base u u')(k:Kept u u')(m:Mem u' base p' r'.M)(f:Ft q u' v)(hq:v.heap[q]?=some (.cells (rA p' fu r') 54)):EW w0 base q fu v p' r':=
 ⟨below_ft (h.B.trans b) f (Nat.le_trans h.bs (Nat.le_trans h.B.size b.size)) (Nat.le_trans h.bs h.q0),(h.K.trans k).ft (Nat.le_trans h.B.size b.size) f h.q0,hq,m.off f (h.kept k) (by decide) (by decide) (by decide) (by decide),h.q0,h.bs⟩
theorem EW.cells(h:EW w0 base q fu u p r):u.cell? ⟨q,0,none⟩=some (.slice (some ⟨p.bR,0,none⟩) 8 p.cR)/\u.cell? ⟨q,1,none⟩=some (.bool r.M.z)/\u.cell? ⟨q,2,none⟩=some (.bool r.M.c)/\u.cell? ⟨q,3,none⟩=some (.bool r.M.hz)/\u.cell? ⟨q,4,none⟩=some (.bool r.M.hc)/\u.cell? ⟨q,5,none⟩=some (.slice p.aH r.M.nH p.cH)/\u.cell? ⟨q,6,none⟩=some (.int .i64 r.M.pc)/\u.cell? ⟨q,7,none⟩=some (.int .i64 r.M.st)/\u.cell? ⟨q,8,none⟩=some (.slice p.aO r.M.nO p.cO)/\u.cell? ⟨q,9,none⟩=some (.int .i64 r.used)/\u.cell? ⟨q,10,none⟩=some (.int .i64 fu)/\u.cell? ⟨q,11,none⟩=some (.bool r.out):=
 ⟨eq_cell h.Q 0,eq_cell h.Q 1,eq_cell h.Q 2,eq_cell h.Q 3,eq_cell h.Q 4,eq_cell h.Q 5,eq_cell h.Q 6,eq_cell h.Q 7,eq_cell h.Q 8,eq_cell h.Q 9,eq_cell h.Q 10,eq_cell h.Q 11⟩
end
theorem put_rr(p p':Pl)(fu:Int)(r r':RV):putL (rA p fu r) 0 (rA p' fu r').toList=rA p' fu r':=by
 simp[putL,rA]
theorem put_rm(p p':Pl)(fu:Int)(r:RV)(M:MV):putL (rA p fu r) 0 (mA p' M).toList=rA p' fu ⟨M,r.used,r.out⟩:=by
 simp[putL,rA,mA]
theorem put_zr(p':Pl)(fu:Int)(r':RV):putL zA 0 (rA p' fu r').toList=rA p' fu r':=by
 simp[putL,rA,zA]
theorem results_one{P:Program}{fn:Func}{p:Tmp}{ty:TypeId}(h:fn.results=#[.cell p ty])(tmps:Array Value)(w:World)(b:Nat)(v:Value)(hp:tmps.getD p undef=.pointer (some ⟨b,0,none⟩))(hl:(loadVar ty ⟨b,0,none⟩).run P w=.ok v w):(results fn tmps).run P w=.ok v w:=by
 have hp':tmps[p]?.getD undef=.pointer (some ⟨b,0,none⟩):=by simpa using hp
 simp[results,h,hp',asAddr,hl]
theorem results_two{P:Program}{fn:Func}{p q:Tmp}{ty:TypeId}(h:fn.results=#[.cell p ty,.tmp q])(tmps:Array Value)(w:World)(b:Nat)(v x:Value)(hp:tmps.getD p undef=.pointer (some ⟨b,0,none⟩))(hq:tmps.getD q undef=x)(hl:(loadVar ty ⟨b,0,none⟩).run P w=.ok v w):(results fn tmps).run P w=.ok (.tuple #[v,x]) w:=by
 have hp':tmps[p]?.getD undef=.pointer (some ⟨b,0,none⟩):=by simpa using hp
 have hq':tmps[q]?.getD undef=x:=by simpa using hq
 simp[results,h,hp',hq',asAddr,hl]
theorem rA_one(p:Pl)(fu:Int)(r:RV):(rA p fu r).all (·.oneCell')=true:=by
 unfold rA;simp[Value.oneCell']
theorem mA_one(p:Pl)(M:MV):(mA p M).all (·.oneCell')=true:=by
 unfold mA;simp[Value.oneCell']
theorem run_info:(Tryz.prog.info? 54).map (·.size)=some 12:=by kernel_rfl
theorem mach_info:(Tryz.prog.info? 33).map (·.size)=some 9:=by kernel_rfl
def FM(r:RV):MV:={r.M with pc:=0,st:=if r.goB then 1 else r.M.st}
def evA(p:Pl)(M:MV)(dn:Bool)(used:Int):Array Value:=#[.bool true,.bool dn,.int .i64 used,.slice (some ⟨p.bR,0,none⟩) 8 p.cR,.bool M.z,.bool M.c,.bool M.hz,.bool M.hc,.slice p.aH M.nH p.cH,.int .i64 M.pc,.int .i64 M.st,.slice p.aO M.nO p.cO]
def eZ:Array Value:=#[.bool false,.bool false,.int .i64 0,.slice none 0 0,.bool false,.bool false,.bool false,.bool false,.slice none 0 0,.int .i64 0,.int .i64 0,.slice none 0 0]
theorem e9{u:World}{q:Nat}{v0 v1 v2 v3 v4 v5 v6 v7 v8:Value}{t:TypeId}(h:u.heap[q]?=some (.cells #[v0,v1,v2,v3,v4,v5,v6,v7,v8] t)):u.cell? ⟨q,0,none⟩=some v0/\u.cell? ⟨q,1,none⟩=some v1/\u.cell? ⟨q,2,none⟩=some v2/\u.cell? ⟨q,3,none⟩=some v3/\u.cell? ⟨q,4,none⟩=some v4/\u.cell? ⟨q,5,none⟩=some v5/\u.cell? ⟨q,6,none⟩=some v6/\u.cell? ⟨q,7,none⟩=some v7/\u.cell? ⟨q,8,none⟩=some v8:=
 ⟨eq_cell h 0,eq_cell h 1,eq_cell h 2,eq_cell h 3,eq_cell h 4,eq_cell h 5,eq_cell h 6,eq_cell h 7,eq_cell h 8⟩
theorem put_ea(p:Pl)(M:MV)(dn:Bool)(used:Int):putL eZ 0 (evA p M dn used).toList=evA p M dn used:=by
 simp[putL,eZ,evA]
theorem put_ez:putL eZ 0 eZ.toList=eZ:=by simp[putL,eZ]
theorem evA_one(p:Pl)(M:MV)(dn:Bool)(used:Int):(evA p M dn used).all (·.oneCell')=true:=by
 unfold evA;simp[Value.oneCell']
theorem eZ_one:eZ.all (·.oneCell')=true:=by
 unfold eZ;simp[Value.oneCell']
theorem ev_info:(Tryz.prog.info? 35).map (·.size)=some 12:=by kernel_rfl
def Cnd(L:Nat->SV)(n nR:Nat)(M:MV)(fu:Int):Prop:=runB L n/\machOK nR M.z M.c M.hz M.hc M.nH M.Hp M.pc M.st M.nO M.K=true/\M.st=0/\0<=fu/\fu<=40000/\M.nO<=100000
def ER(L:Nat->SV)(n nR:Nat)(M:MV)(fu:Int):Option (MV×Bool×Int)->Prop
 |none=>¬Cnd L n nR M fu
 |some x=>Cnd L n nR M fu/\∃r',Ev L fu 0 n ⟨M,0,false⟩ r'/\RGood fu M.nO r'/\x=(FM r',!r'.out,r'.used)
theorem ER.det{L:Nat->SV}{n nR:Nat}{M:MV}{fu:Int}{a b:Option (MV×Bool×Int)}(ha:ER L n nR M fu a)(hb:ER L n nR M fu b):a=b:=by
 cases a with
 |none=>
  cases b with
  |none=>rfl
  |some y=>exact absurd hb.1 ha
 |some x=>
  cases b with
  |none=>exact absurd ha.1 hb
  |some y=>
   obtain⟨_,r,h1,_,rfl⟩:=ha;obtain⟨_,s,h2,_,rfl⟩:=hb;obtain rfl:=h1.det h2;rfl
def AnsE(w:World)(base:Nat)(v:Value):Option (MV×Bool×Int)->Prop
 |none=>v=.agg eZ
 |some x=>∃p,v=.agg (evA p x.1 x.2.1 x.2.2)/\Mem w base p x.1
theorem Ev.outs{L:Nat->SV}{fu:Int}{i te:Nat}{r a:RV}(h:Ev L fu i te r a)(hr:r.out=true->r.M.st=0):a.out=true->a.M.st=0:=by
 have hi:∀s r,r.go->(insR fu s r).out=true->(insR fu s r).M.st=0:=fun s r hg=>by
  unfold insR;split
  ·exact fun _=>hg.2
  ·intro h;exact absurd (hg.1.symm.trans h) (by decide)
 have hl:∀{c r r1 b},r.go->lookR fu c r=(r1,b)->r1.out=true->r1.M.st=0:=fun{c r r1 b}hg h=>by
  have e:=congrArg Prod.fst h;simp only at e;rw[<-e];unfold lookR;split
  ·exact fun _=>hg.2
  ·intro h;exact absurd (hg.1.symm.trans h) (by decide)
 exact h (fun _ _ r a=>(r.out=true->r.M.st=0)->a.out=true->a.M.st=0) ⟨fun _ hr=>hr,fun _ g _ ih _=>ih (hi _ _ g),fun _ g _ h a b _=>b (a (hl g h)),fun _ g _ h a b _=>b (a (hl g h)),fun _ g _ h a b _=>b (a (hl g h)),fun _ g _ h a _=>a (hl g h)⟩ hr
theorem FM_done{r:RV}(h:r.out=true->r.M.st=0):((FM r).st !=0)=!r.out:=by
 have e:(FM r).st=if r.goB then 1 else r.M.st:=rfl
 rw[e];by_cases g:r.go
 ·rw[if_pos (RV.goB_yes g),g.1];rfl
 ·rw[if_neg (RV.goB_nt g)]
  by_cases ho:r.out=true
  ·rw[h ho,ho];rfl
  ·have ho':r.out=false:=by simpa using ho
   have hs:r.M.st≠0:=fun e=>g ⟨ho',e⟩
   rw[ho'];simpa using hs
theorem Mem.fm{w:World}{base:Nat}{p:Pl}{r:RV}(h:Mem w base p r.M):Mem w base p (FM r):=⟨h.regs,h.heaps,h.data,h.obs,h.ne⟩
end Go.Proofs.YtlkjdanoejdgbaaGreat
