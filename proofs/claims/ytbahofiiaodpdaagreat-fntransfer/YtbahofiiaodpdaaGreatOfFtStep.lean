import Derived.Test.YtbahofiiaodpdaaGreatOfBytes
import Derived.Test.YtbahofiiaodpdaaGreatOfTransImplT
import Derived.Test.YtbahofiiaodpdaaGreatOfTransBits
import Derived.Laws.Bits64b
import Derived.Test.YtbahofiiaodpdaaGreatOfTransSpS
set_option maxHeartbeats 2000000
namespace Go.Proofs.YtbahofiiaodpdaaGreat
open Go.RowKit
def HoldV(B:Nat->Int)(v:VV)(x:Int):Prop:=
 (v.k=0/\(v.m= -1∨x<=v.m))∨(v.k=1/\∃d,v.lo<=d/\d<=v.hi/\x=(B v.h.toNat+d)%18446744073709551616)
section
variable{B:Nat->Int}{a b v:VV}{x y m imm:Int}{s:Bool}
theorem hold_num(h:m<0∨1099511627776<m∨x<=m):HoldV B (numV s m) x:=by
 refine Or.inl ⟨rfl,?_⟩;show(if m<0∨1099511627776<m then(-1:Int)else m)= -1∨x<=(if m<0∨1099511627776<m then(-1:Int)else m);by_cases e:m<0∨1099511627776<m
 ·rw[if_pos e];exact Or.inl rfl
 ·rw[if_neg e];exact Or.inr (by omega)
theorem hold_max(h:HoldV B v x)(hm:0<=maxV v):v.k=0/\x<=v.m/\maxV v=v.m/\0<=v.m:=by
 unfold maxV at hm⊢;rcases h with⟨k,h⟩|⟨k,_⟩
 ·rw[if_neg (by omega)]at hm⊢
  exact⟨k,by omega,rfl,hm⟩
 ·rw[if_pos k]at hm;omega
theorem hold_sumP(ha:HoldV B a x)(hb:HoldV B b y)(y0:0<=y)(x0:0<=x):HoldV B (sumP a b) ((x+y)%18446744073709551616):=by
 unfold sumP;split
 ·rename_i h
  obtain⟨_,h2,_,_⟩:=hold_max hb h.2.1;rcases ha with⟨k,_⟩|⟨k,d,d0,d1,e⟩
  ·omega
  ·exact Or.inr ⟨k,d+y,by show a.lo<=d+y;omega,by show d+y<=a.hi+b.m;omega,by show _=(B a.h.toNat+(d+y))%_;omega⟩
 ·split
  ·rename_i h
   obtain⟨_,h2,_,_⟩:=hold_max ha h.1;obtain⟨_,h3,_,_⟩:=hold_max hb h.2;exact hold_num (by omega)
  ·exact hold_num (by omega)
theorem hold_sum(ha:HoldV B a x)(hb:HoldV B b y)(x0:0<=x)(y0:0<=y):HoldV B (sumV a b) ((x+y)%18446744073709551616):=by
 unfold sumV;split
 ·rw[Int.add_comm];exact hold_sumP hb ha x0 y0
 ·exact hold_sumP ha hb y0 x0
theorem mul_in{p q:Int}(x0:0<=x)(y0:0<=y)(hx:x<=p)(hy:y<=q):x*y%18446744073709551616<=timesI p q∨1099511627776<timesI p q:=by
 have hxy:x*y<=p*q:=Int.mul_le_mul hx hy y0 (by omega);have h0:0<=x*y:=Int.mul_nonneg x0 y0;have hm:x*y%18446744073709551616<=x*y:=by omega
 unfold timesI;split
 ·rename_i h
  left;have:x*y=0:=by
   rcases h with h|h
   ·have:x=0:=by omega
    rw[this,Int.zero_mul]
   ·have:y=0:=by omega
    rw[this,Int.mul_zero]
  omega
 ·split
  ·right;omega
  ·left;omega
theorem hold_mul(ha:HoldV B a x)(hb:HoldV B b y)(x0:0<=x)(y0:0<=y):HoldV B (if 0<=maxV a/\0<=maxV b then numV s (timesI a.m b.m)else numV s (-1)) (x*y%18446744073709551616):=by
 split
 ·rename_i h
  obtain⟨_,h2,_,_⟩:=hold_max ha h.1;obtain⟨_,h3,_,_⟩:=hold_max hb h.2;have:=mul_in x0 y0 h2 h3;exact hold_num (by omega)
 ·exact hold_num (by omega)
theorem and_le(x0:0<=x)(y0:0<=y)(x1:x<=18446744073709551615)(y1:y<=18446744073709551615):bits BinOp.and IntKind.u64 x y<=x/\bits BinOp.and IntKind.u64 x y<=y:=by
 obtain⟨p,rfl⟩:∃p:Nat,x=(p:Int):=⟨x.toNat,by omega⟩
 obtain⟨q,rfl⟩:∃q:Nat,y=(q:Int):=⟨y.toNat,by omega⟩
 rw[bits_and_u64_nat p q (by omega) (by omega)];have h1:p&&&q<=p:=Nat.and_le_left;have h2:p&&&q<=q:=Nat.and_le_right;omega
theorem hold_and(ha:HoldV B a x)(hb:HoldV B b y)(x0:0<=x)(y0:0<=y)(x1:x<=18446744073709551615)(y1:y<=18446744073709551615):HoldV B (numV s (leastI (maxV a) (maxV b))) (bits BinOp.and IntKind.u64 x y):=by
 have hl:=and_le x0 y0 x1 y1;refine hold_num ?_;unfold leastI;split
 ·by_cases h:0<=maxV b
  ·obtain⟨_,h2,h3,_⟩:=hold_max hb h;omega
  ·omega
 ·have h:0<=maxV a:=by omega
  obtain⟨_,h2,h3,_⟩:=hold_max ha h;omega
theorem lt_ones{n:Int}(_h0:0<=x)(h:x<=n):x.toNat<2^bitsN n.toNat:=by
 have:=(bitsN_le_iff n.toNat _).1 (Nat.le_refl _);omega
theorem hold_bits(o:BinOp)(ho:o=.or∨o=.xor)(ha:HoldV B a x)(hb:HoldV B b y)(x0:0<=x)(y0:0<=y)(x1:x<=18446744073709551615)(y1:y<=18446744073709551615):
 HoldV B (if 0<=maxV a/\0<=maxV b then numV s (onesI (bigI a.m b.m))else numV s (-1)) (bits o IntKind.u64 x y):=by
 split
 ·rename_i h
  obtain⟨_,h2,_,_⟩:=hold_max ha h.1;obtain⟨_,h3,_,_⟩:=hold_max hb h.2;have hbg:a.m<=bigI a.m b.m/\b.m<=bigI a.m b.m:=by unfold bigI;split<;>omega
  have e1:=lt_ones x0 (show x<=bigI a.m b.m by omega);have e2:=lt_ones y0 (show y<=bigI a.m b.m by omega);refine hold_num (Or.inr (Or.inr ?_));unfold onesI;generalize bitsN (bigI a.m b.m).toNat=k at *;obtain⟨p,rfl⟩:∃p:Nat,x=(p:Int):=⟨x.toNat,by omega⟩
  obtain⟨q,rfl⟩:∃q:Nat,y=(q:Int):=⟨y.toNat,by omega⟩
  rcases ho with rfl|rfl
  ·rw[bits_or_u64_nat p q (by omega) (by omega)]
   have:=Nat.or_lt_two_pow (n:=k) (x:=p) (y:=q) (by simpa using e1) (by simpa using e2);omega
  ·rw[bits_xor_u64_nat p q (by omega) (by omega)]
   have:=Nat.xor_lt_two_pow (n:=k) (x:=p) (y:=q) (by simpa using e1) (by simpa using e2);omega
 ·exact hold_num (by omega)
theorem hold_div(ha:HoldV B a x)(x0:0<=x)(_y0:0<=y):HoldV B (numV s (maxV a)) (if y=0 then 0 else x/y):=by
 have hd:(if y=0 then 0 else x/y)<=x:=by
  split
  ·exact x0
  ·exact Int.ediv_le_self y x0
 refine hold_num ?_;by_cases h:0<=maxV a
 ·obtain⟨_,h2,h3,_⟩:=hold_max ha h;omega
 ·omega
theorem hold_addi(ha:HoldV B a x)(x0:0<=x):HoldV B (if a.k=1/\ -1099511627776<=a.lo+imm/\a.hi+imm<=1099511627776 then{a with lo:=a.lo+imm,hi:=a.hi+imm}else if 0<=maxV a/\0<=imm then numV s (a.m+imm)else numV s (-1)) ((x+imm%18446744073709551616)%18446744073709551616):=by
 split
 ·rename_i h
  rcases ha with⟨k,_⟩|⟨k,d,d0,d1,e⟩
  ·omega
  ·exact Or.inr ⟨k,d+imm,by show a.lo+imm<=d+imm;omega,by show d+imm<=a.hi+imm;omega,by show _=(B a.h.toNat+(d+imm))%_;omega⟩
 ·split
  ·rename_i h
   obtain⟨_,h2,_,_⟩:=hold_max ha h.1;exact hold_num (by omega)
  ·exact hold_num (by omega)
theorem hold_andi(ha:HoldV B a x)(x0:0<=x)(x1:x<=18446744073709551615)(i1:imm<=1000000):HoldV B (numV s (leastI imm (maxV a))) (bits BinOp.and IntKind.u64 x (imm%18446744073709551616)):=by
 have hl:=and_le x0 (show 0<=imm%18446744073709551616 by omega) x1 (by omega);refine hold_num ?_;unfold leastI;split
 ·by_cases h:0<=maxV a
  ·obtain⟨_,h2,h3,_⟩:=hold_max ha h;omega
  ·omega
 ·omega
theorem hold_shl{n:Nat}(ha:HoldV B a x)(x0:0<=x)(hn:imm=(n:Int)):HoldV B (if maxV a=0 then numV s 0 else if 0<maxV a/\imm<=40 then numV s (timesI a.m ((2^imm.toNat:Nat):Int))else numV s (-1)) (x*2^n%18446744073709551616):=by
 split
 ·rename_i h
  obtain⟨_,h2,h3,_⟩:=hold_max ha (by omega);have:x=0:=by omega
  rw[this,Int.zero_mul];exact hold_num (by omega)
 ·split
  ·rename_i h
   obtain⟨_,h2,_,_⟩:=hold_max ha (by omega);have e:((2^imm.toNat:Nat):Int)=(2:Int)^n:=by rw[hn];simp
   rw[e];have p0:(0:Int)<=2^n:=Int.le_of_lt (Int.pow_pos (by decide));have:=mul_in x0 p0 h2 (Int.le_refl ((2:Int)^n));exact hold_num (by omega)
  ·exact hold_num (by omega)
theorem hold_shr{n:Nat}(ha:HoldV B a x)(x0:0<=x)(x1:x<=18446744073709551615)(hn:imm=(n:Int))(n63:n<=63):HoldV B (if 0<=maxV a then numV s (a.m/((2^imm.toNat:Nat):Int))else if 24<=imm then numV s (((2^(64-imm).toNat:Nat):Int)-1)else numV s (-1)) (x/2^n):=by
 have e:((2^imm.toNat:Nat):Int)=(2:Int)^n:=by rw[hn];simp
 have p0:(0:Int)<2^n:=Int.pow_pos (by decide);split
 ·rename_i h
  obtain⟨_,h2,_,_⟩:=hold_max ha h;rw[e];exact hold_num (Or.inr (Or.inr (Int.ediv_le_ediv p0 h2)))
 ·split
  ·refine hold_num (Or.inr (Or.inr ?_))
   rw[show(64-imm).toNat=64-n by omega];have hp:((2^(64-n):Nat):Int)*2^n=18446744073709551616:=by
    have:(2^(64-n):Nat)*2^n=2^64:=by rw[<-Nat.pow_add];congr 1;omega
    have h2:((2^(64-n)*2^n:Nat):Int)=((2^64:Nat):Int):=by rw[this]
    simpa using h2
   have:=(Int.ediv_lt_iff_lt_mul p0 (a:=x) (b:=((2^(64-n):Nat):Int))).2 (by rw[hp];omega);omega
  ·exact hold_num (by omega)
theorem hold_adc{k:Int}(ha:HoldV B a x)(hb:HoldV B b y)(x0:0<=x)(y0:0<=y)(k0:0<=k)(k1:k<=1):HoldV B (if 0<=maxV a/\0<=maxV b then numV s (a.m+b.m+1)else numV s (-1)) ((x+y+k)%18446744073709551616):=by
 split
 ·rename_i h
  obtain⟨_,h2,_,_⟩:=hold_max ha h.1;obtain⟨_,h3,_,_⟩:=hold_max hb h.2;exact hold_num (by omega)
 ·exact hold_num (by omega)
theorem hold_movi:HoldV B (numV s imm) (imm%18446744073709551616):=hold_num (by omega)
theorem hold_join(_k:a.k=0∨a.k=1)(_k':b.k=0∨b.k=1)(h:HoldV B a x∨HoldV B b x):HoldV B (joinV a b) x:=by
 unfold joinV;split
 ·rename_i e
  refine Or.inr ⟨rfl,?_⟩;rcases h with(⟨q,_⟩|⟨_,d,d0,d1,hx⟩)|(⟨q,_⟩|⟨_,d,d0,d1,hx⟩)
  ·omega
  ·exact⟨d,by show(if b.lo<a.lo then b.lo else a.lo)<=d;split<;>omega,by show d<=(if b.hi>a.hi then b.hi else a.hi);split<;>omega,hx⟩
  ·omega
  ·exact⟨d,by show(if b.lo<a.lo then b.lo else a.lo)<=d;split<;>omega,by show d<=(if b.hi>a.hi then b.hi else a.hi);split<;>omega,by rw[hx,e.2.2]⟩
 ·split
  ·refine Or.inl ⟨rfl,Or.inr ?_⟩
   show x<=(if b.m>a.m then b.m else a.m);rcases h with(⟨_,q⟩|⟨q,_⟩)|(⟨_,q⟩|⟨q,_⟩)<;>split<;>omega
  ·exact Or.inl ⟨rfl,Or.inl rfl⟩
theorem hold_pick{f:Int}(k:a.k=0∨a.k=1)(k':b.k=0∨b.k=1)(h:HoldV B a x∨HoldV B b x):HoldV B (pickV a b f) x:=by
 unfold pickV;by_cases e:f=2/\(joinV a b).k=1
 ·rw[if_pos e]
  exact(hold_num (s:=true) (B:=B) (x:=x) (m:= -1) (by omega))
 ·rw[if_neg e]
  exact hold_join k k' h
end
structure AsV(nH:Nat)(S:Nat->HS)(V:Nat->VV)(z c:Int)(M:MV):Prop where
 nh:M.nH=nH
 sz:∀i,i<nH->((M.Hp i).len:Int)=(S i).size/\(M.Hp i).wr=(S i).w
 rg:∀i,i<8->HoldV (fun k=>(M.Hp k).base) (V i) (M.R i)
 hz:z=0∨M.hz=true
 hc:c=0∨M.hc=true
section
variable{nH:Nat}{S:Nat->HS}{V:Nat->VV}{z c z' c':Int}{M:MV}
theorem AsV.set(p:AsV nH S V z c M){d:Nat}{r:VV}{v:Int}(h:HoldV (fun k=>(M.Hp k).base) r v):AsV nH S (updV V d r) z c (M.setR d v):=by
 refine⟨p.nh,p.sz,fun i hi=>?_,p.hz,p.hc⟩;show HoldV (fun k=>(M.Hp k).base) (if i=d then r else V i) (if i=d then v else M.R i);by_cases e:i=d
 ·rw[if_pos e,if_pos e];exact h
 ·rw[if_neg e,if_neg e];exact p.rg i hi
theorem AsV.see(p:AsV nH S V z c M)(k v:Int):AsV nH S V z c (M.see k v):=⟨p.nh,p.sz,p.rg,p.hz,p.hc⟩
theorem AsV.flags(p:AsV nH S V z c M)(r:Int)(cy:Bool):AsV nH S V z' c' (M.flags r cy):=⟨p.nh,p.sz,p.rg,Or.inr rfl,Or.inr rfl⟩
theorem poke_base(M:MV)(h j:Nat)(u:Int)(i:Nat):((M.poke h j u).Hp i).base=(M.Hp i).base/\((M.poke h j u).Hp i).len=(M.Hp i).len/\((M.poke h j u).Hp i).wr=(M.Hp i).wr:=by
 unfold MV.poke;dsimp only;split<;>exact⟨rfl,rfl,rfl⟩
theorem AsV.poke(p:AsV nH S V z c M)(h j:Nat)(u:Int):AsV nH S V z c (M.poke h j u):=by
 refine⟨p.nh,fun i hi=>?_,fun i hi=>?_,p.hz,p.hc⟩
 ·rw[(poke_base M h j u i).2.1,(poke_base M h j u i).2.2];exact p.sz i hi
 ·rw[show(fun k=>((M.poke h j u).Hp k).base)=fun k=>(M.Hp k).base from funext fun k=>(poke_base M h j u k).1];exact p.rg i hi
theorem AsV.pokeN(p:AsV nH S V z c M)(h o:Nat)(v:Int):∀k,AsV nH S V z c (M.pokeN h o v k)/\(M.pokeN h o v k).st=M.st
 |0=>⟨p,rfl⟩
 |k+1=>⟨(AsV.pokeN p h o v k).1.poke _ _ _,(AsV.pokeN p h o v k).2⟩
end
theorem lies_ok{B d t u A:Int}{len wd:Nat}(b0:0<=B)(b1:B+len<=18446744073709551615)(hA:A=((B+d)%18446744073709551616+u)%18446744073709551616)(hu:u=t%18446744073709551616)(h0:0<=d+t)(h1:d+t+wd<=len):A-B=d+t/\lies B A wd len=true:=by
 have:A=B+(d+t):=by omega
 refine⟨by omega,?_⟩;unfold lies;rw[decide_eq_true (by omega),decide_eq_true (by omega),decide_eq_true (by omega)];rfl
theorem acc_ok{op imm h:Int}{a b x:VV}{g:HS}(e:accI op imm h a b x g=0):a.k=1/\a.h=h/\0<=maxV b/\0<=a.lo+imm/\a.hi+imm+b.m+wdI op<=g.size/\(stB op=true->g.w=true):=by
 unfold accI at e;by_cases h1:a.k≠1
 ·rw[if_pos h1]at e;omega
 rw[if_neg h1]at e;by_cases h2:a.h≠h
 ·rw[if_pos h2]at e;omega
 rw[if_neg h2]at e;by_cases h3:b.s=true∨maxV b<0
 ·rw[if_pos h3]at e;omega
 rw[if_neg h3]at e;by_cases h4:a.lo+imm<0∨g.size<a.hi+imm+b.m+wdI op
 ·rw[if_pos h4]at e;omega
 rw[if_neg h4]at e;refine⟨by omega,by omega,?_,by omega,by omega,fun hs=>?_⟩
 ·by_cases q:0<=maxV b
  ·exact q
  ·exact absurd (Or.inr (by omega)) h3
 ·rw[if_neg (by rw[hs];decide)]at e
  cases hw:g.w with
  |true=>rfl
  |false=>rw[if_pos hw]at e;omega
theorem ref_ok{op fl r:Int}{sec:Bool}(e:refI op fl sec r=0):fl≠0/\(21<=op->op<=28->r=0):=by
 unfold refI at e;by_cases h1:fl=0
 ·rw[if_pos h1]at e;omega
 rw[if_neg h1]at e;by_cases h2:op=9/\sec=true
 ·rw[if_pos h2]at e;omega
 rw[if_neg h2]at e;refine⟨h1,fun a b=>?_⟩;rw[if_pos ⟨a,b⟩]at e;exact e
section
variable{nH nR:Nat}{S:Nat->HS}{V V0:Nat->VV}{z c imm:Int}{M:MV}{di ia ib q:Nat}
theorem opA_t{op:Int}{i:Nat}(h:bitB op 2=true):opA V op i=V i:=by unfold opA;rw[if_pos h]
theorem opB_t{op:Int}{i:Nat}(h:bitB op 4=true):opB V op i=V i:=by unfold opB;rw[if_pos h]
theorem opB_f{op:Int}{i:Nat}(h:bitB op 4=false):opB V op i=zV:=by unfold opB;rw[if_neg (by rw[h];decide)]
theorem trW_t{op:Int}(h:wrB op=true):trW S V z c op (di:Int) (ia:Int) (ib:Int) imm (q:Int)=updV V di (trR op imm (opA V op ia) (opB V op ib) (secB V op z c ia ib) (opF op z c) (S q)):=by unfold trW;rw[if_pos h];rfl
theorem trW_f{op:Int}(h:wrB op=false):trW S V z c op (di:Int) (ia:Int) (ib:Int) imm (q:Int)=V:=by unfold trW;rw[if_neg (by rw[h];decide)]
theorem trZ_f{op x:Int}(h:fgB op=false):trZ V z c op (ia:Int) (ib:Int) x=x:=by unfold trZ;rw[if_neg (by rw[h];decide)]
theorem mem_in{op t u y:Int}{b:VV}{wd:Nat}(ok:M.Ok)(p:AsV nH S V z c M)(hi:ia<8)(hq:q<nH)(e:accI op imm (q:Int) (V ia) b (V di) (S q)=0)(hw:wdI op=(wd:Int))(ht:t=imm+y)(y0:0<=y)(y1:y<=b.m)(hu:u=t%18446744073709551616)(A:Int)(hA:A=(M.R ia+u)%18446744073709551616):
 ¬M.nH<=q/\lies (M.Hp q).base A wd (M.Hp q).len=true/\0<=A-(M.Hp q).base/\A-(M.Hp q).base+wd<=(M.Hp q).len/\(stB op=true->(M.Hp q).wr=true):=by
 obtain⟨k,eh,_,l0,l1,hs⟩:=acc_ok e;have hn:=p.nh;obtain⟨s1,s2⟩:=p.sz q hq;obtain⟨b0,b1,b2,b3⟩:=ok.heap q (by omega);rcases p.rg ia hi with⟨k0,_⟩|⟨_,d,d0,d1,ex⟩
 ·omega
 rw[eh]at ex;have ex':M.R ia=((M.Hp q).base+d)%18446744073709551616:=ex;rw[ex']at hA;rw[hw]at l1;obtain⟨h1,h2⟩:=lies_ok (t:=t) (wd:=wd) b0 b3 hA hu (by omega) (by omega);exact⟨by omega,h2,by omega,by omega,fun h=>s2.trans (hs h)⟩
theorem step_sound{op:Int}(hok:absOK nH S nR V0 8 V z c=true)(hik:implIns op (di:Int) (ia:Int) (ib:Int) imm (q:Int)=true)(o28:op<=28)(hia:ia<8)(hib:ib<8)(ok:M.Ok)(p:AsV nH S V z c M)(he:trE nH S nR V0 8 V z c op (di:Int) (ia:Int) (ib:Int) imm (q:Int)=0)(nx:Int):
 ∃M',exec op.toNat di ia ib q imm M nx=.done M' nx/\M'.st=M.st/\AsV nH S (trW S V z c op (di:Int) (ia:Int) (ib:Int) imm (q:Int)) (trZ V z c op (ia:Int) (ib:Int) z) (trZ V z c op (ia:Int) (ib:Int) c) M':=by
 have hr:refI op (opF op z c) (secB V op z c ia ib) (accI op imm (q:Int) (opA V op ia) (opB V op ib) (V di) (S q))=0:=by
  unfold trE at he;rw[if_pos ⟨hok,hik,o28⟩]at he;exact he
 obtain⟨hf,hacc⟩:=ref_ok hr;clear hr he;obtain⟨o1,_,_,_,_,_,_,_,_,n0,n1,n2⟩:=ins_nats hik o28;obtain⟨_,_,G⟩:=good_regs hok;have kA:=(bd_of_good (G ia hia)).k;have kB:=(bd_of_good (G ib hib)).k;have hqi:(V ia).k=1->(V ia).h=(q:Int)->q<nH:=fun k e=>by have:=heap_of_good (G ia hia) k;omega
 have ga:=p.rg ia hia;have gb:=p.rg ib hib;obtain⟨x0,x1⟩:=ok.reg ia hia;obtain⟨y0,y1⟩:=ok.reg ib hib;clear G hok;rcases ops_1_28 o1 o28 with rfl|rfl|rfl|rfl|rfl|rfl|rfl|rfl|rfl|rfl|rfl|rfl|rfl|rfl|rfl|rfl|rfl|rfl|rfl|rfl|rfl|rfl|rfl|rfl|rfl|rfl|rfl|rfl
 ·clear hqi hacc
  rw[trW_t (show wrB 1=true by kernel_rfl),trZ_f (show fgB 1=false by kernel_rfl),trZ_f (show fgB 1=false by kernel_rfl),opA_t (show bitB 1 2=true by kernel_rfl)];refine⟨_,rfl,rfl,?_⟩;refine p.set ?_;exact ga
 ·clear hqi hacc
  rw[trW_t (show wrB 2=true by kernel_rfl),trZ_f (show fgB 2=false by kernel_rfl),trZ_f (show fgB 2=false by kernel_rfl)];refine⟨_,rfl,rfl,?_⟩;refine p.set ?_;exact hold_movi
 ·clear hqi hacc
  rw[trW_t (show wrB 3=true by kernel_rfl),trZ_f (show fgB 3=false by kernel_rfl),trZ_f (show fgB 3=false by kernel_rfl),opA_t (show bitB 3 2=true by kernel_rfl),opB_t (show bitB 3 4=true by kernel_rfl)];refine⟨_,rfl,rfl,?_⟩;refine p.set ?_;exact hold_sum ga gb x0 y0
 ·clear hqi hacc
  rw[trW_t (show wrB 4=true by kernel_rfl),trZ_f (show fgB 4=false by kernel_rfl),trZ_f (show fgB 4=false by kernel_rfl),opA_t (show bitB 4 2=true by kernel_rfl),opB_t (show bitB 4 4=true by kernel_rfl)];refine⟨_,rfl,rfl,?_⟩;refine p.set ?_;exact hold_num (by omega)
 ·clear hqi hacc
  rw[trW_t (show wrB 5=true by kernel_rfl),trZ_f (show fgB 5=false by kernel_rfl),trZ_f (show fgB 5=false by kernel_rfl),opA_t (show bitB 5 2=true by kernel_rfl),opB_t (show bitB 5 4=true by kernel_rfl)];refine⟨_,rfl,rfl,?_⟩;refine p.set ?_;exact hold_mul ga gb x0 y0
 ·clear hqi hacc
  rw[trW_t (show wrB 6=true by kernel_rfl),trZ_f (show fgB 6=false by kernel_rfl),trZ_f (show fgB 6=false by kernel_rfl),opA_t (show bitB 6 2=true by kernel_rfl),opB_t (show bitB 6 4=true by kernel_rfl)];refine⟨_,rfl,rfl,?_⟩;refine p.set ?_;exact hold_and ga gb x0 y0 x1 y1
 ·clear hqi hacc
  rw[trW_t (show wrB 7=true by kernel_rfl),trZ_f (show fgB 7=false by kernel_rfl),trZ_f (show fgB 7=false by kernel_rfl),opA_t (show bitB 7 2=true by kernel_rfl),opB_t (show bitB 7 4=true by kernel_rfl)];refine⟨_,rfl,rfl,?_⟩;refine p.set ?_;exact hold_bits .or (Or.inl rfl) ga gb x0 y0 x1 y1
 ·clear hqi hacc
  rw[trW_t (show wrB 8=true by kernel_rfl),trZ_f (show fgB 8=false by kernel_rfl),trZ_f (show fgB 8=false by kernel_rfl),opA_t (show bitB 8 2=true by kernel_rfl),opB_t (show bitB 8 4=true by kernel_rfl)];refine⟨_,rfl,rfl,?_⟩;refine p.set ?_;exact hold_bits .xor (Or.inr rfl) ga gb x0 y0 x1 y1
 ·clear hqi hacc
  rw[trW_t (show wrB 9=true by kernel_rfl),trZ_f (show fgB 9=false by kernel_rfl),trZ_f (show fgB 9=false by kernel_rfl),opA_t (show bitB 9 2=true by kernel_rfl),opB_t (show bitB 9 4=true by kernel_rfl)];refine⟨_,rfl,rfl,?_⟩;refine(p.see _ _).set ?_;exact hold_div ga x0 y0
 ·clear hqi hacc
  rw[trW_t (show wrB 10=true by kernel_rfl),trZ_f (show fgB 10=false by kernel_rfl),trZ_f (show fgB 10=false by kernel_rfl),opA_t (show bitB 10 2=true by kernel_rfl)];refine⟨_,rfl,rfl,?_⟩;refine p.set ?_;exact hold_addi ga x0
 ·clear hqi hacc
  rw[trW_t (show wrB 11=true by kernel_rfl),trZ_f (show fgB 11=false by kernel_rfl),trZ_f (show fgB 11=false by kernel_rfl),opA_t (show bitB 11 2=true by kernel_rfl)];refine⟨_,rfl,rfl,?_⟩;refine p.set ?_;exact hold_andi ga x0 x1 n1
 ·clear hqi hacc
  rw[trW_t (show wrB 12=true by kernel_rfl),trZ_f (show fgB 12=false by kernel_rfl),trZ_f (show fgB 12=false by kernel_rfl),opA_t (show bitB 12 2=true by kernel_rfl)];obtain⟨i0,i1⟩:=n2 (by decide);obtain⟨n,rfl⟩:∃n:Nat,imm=(n:Int):=⟨imm.toNat,by omega⟩
  refine⟨_,rfl,rfl,?_⟩;refine p.set ?_;rw[show IntKind.u64.wrap (n:Int)=(n:Int)from by rw[IntKind.wrap_u64];omega];exact hold_shl ga x0 rfl
 ·clear hqi hacc
  rw[trW_t (show wrB 13=true by kernel_rfl),trZ_f (show fgB 13=false by kernel_rfl),trZ_f (show fgB 13=false by kernel_rfl),opA_t (show bitB 13 2=true by kernel_rfl)];obtain⟨i0,i1⟩:=n2 (by decide);obtain⟨n,rfl⟩:∃n:Nat,imm=(n:Int):=⟨imm.toNat,by omega⟩
  refine⟨_,rfl,rfl,?_⟩;refine p.set ?_;rw[show IntKind.u64.wrap (n:Int)=(n:Int)from by rw[IntKind.wrap_u64];omega];exact hold_shr ga x0 x1 rfl (by omega)
 ·clear hqi hacc
  rw[trW_t (show wrB 14=true by kernel_rfl),opA_t (show bitB 14 2=true by kernel_rfl),opB_t (show bitB 14 4=true by kernel_rfl)];refine⟨_,rfl,rfl,?_⟩;refine(p.set ?_).flags _ _;show HoldV _ (sumV (V ia) (V ib)) ((M.R ia+M.R ib+0)%18446744073709551616);rw[Int.add_zero];exact hold_sum ga gb x0 y0
 ·clear hqi hacc
  rw[trW_t (show wrB 15=true by kernel_rfl),opA_t (show bitB 15 2=true by kernel_rfl),opB_t (show bitB 15 4=true by kernel_rfl)];have hc:M.hc=true:=by rcases p.hc with h|h;exact absurd h hf;exact h
  refine⟨?m15,?e15,?s15,?a15⟩
  case e15=>exact if_pos hc
  case s15=>rfl
  refine(p.set ?_).flags _ _;exact hold_adc ga gb x0 y0 (by split<;>omega) (by split<;>omega)
 ·clear hqi hacc
  rw[trW_t (show wrB 16=true by kernel_rfl),opA_t (show bitB 16 2=true by kernel_rfl),opB_t (show bitB 16 4=true by kernel_rfl)];refine⟨_,rfl,rfl,?_⟩;refine(p.flags _ _).set ?_;exact hold_num (by omega)
 ·clear hqi hacc
  rw[trW_f (show wrB 17=false by kernel_rfl)];exact⟨_,rfl,rfl,p.flags _ _⟩
 ·clear hqi hacc
  rw[trW_f (show wrB 18=false by kernel_rfl)];exact⟨_,rfl,rfl,p.flags _ _⟩
 ·clear hqi hacc
  rw[trW_t (show wrB 19=true by kernel_rfl),trZ_f (show fgB 19=false by kernel_rfl),trZ_f (show fgB 19=false by kernel_rfl),opA_t (show bitB 19 2=true by kernel_rfl),opB_t (show bitB 19 4=true by kernel_rfl)];have hc:M.hz=true:=by rcases p.hz with h|h;exact absurd h hf;exact h
  refine⟨?m19,?e19,?s19,?a19⟩
  case e19=>exact if_pos hc
  case s19=>rfl
  refine p.set ?_;refine hold_pick kA kB ?_;split
  ·exact Or.inl ga
  ·exact Or.inr gb
 ·clear hqi hacc
  rw[trW_t (show wrB 20=true by kernel_rfl),trZ_f (show fgB 20=false by kernel_rfl),trZ_f (show fgB 20=false by kernel_rfl),opA_t (show bitB 20 2=true by kernel_rfl),opB_t (show bitB 20 4=true by kernel_rfl)];have hc:M.hc=true:=by rcases p.hc with h|h;exact absurd h hf;exact h
  refine⟨?m20,?e20,?s20,?a20⟩
  case e20=>exact if_pos hc
  case s20=>rfl
  refine p.set ?_;refine hold_pick kA kB ?_;split
  ·exact Or.inl ga
  ·exact Or.inr gb
 ·clear hf
  rw[trW_t (show wrB 21=true by kernel_rfl),trZ_f (show fgB 21=false by kernel_rfl),trZ_f (show fgB 21=false by kernel_rfl)];have ha:=hacc (by decide) (by decide);rw[opA_t (show bitB 21 2=true by kernel_rfl),opB_f (show bitB 21 4=false by kernel_rfl)]at ha;have hq:q<nH:=hqi (acc_ok ha).1 (acc_ok ha).2.1;obtain⟨h1,h2,h3,h4,h5⟩:=mem_in (t:=imm) (u:=imm%18446744073709551616) (y:=0) (wd:=1) ok p hia hq ha (by decide) (by omega) (by omega) (by decide) rfl (adrN M ia imm) (by unfold adrN;rw[IntKind.wrap_u64,IntKind.wrap_u64]);refine⟨(M.see 1 (adrN M ia imm)).setR di (loadV (M.Hp q).dat ((adrN M ia imm)-(M.Hp q).base).toNat 1),?_,?_,?_⟩
  ·show memOp false 1 (adrN M ia imm) di q M nx=_
   unfold memOp;rw[if_neg h1,show(lies (M.Hp q).base (adrN M ia imm) ((1:Nat):Int) (M.Hp q).len&&(!false||(M.Hp q).wr))=true from by rw[h2];rfl,if_pos rfl,if_neg (by decide)]
  ·rfl
  ·refine(p.see 1 _).set ?_
   have hd:=ok.dat q (by omega) ((adrN M ia imm)-(M.Hp q).base).toNat (by omega);refine hold_num (Or.inr (Or.inr ?_));show 0+(M.Hp q).dat (((adrN M ia imm)-(M.Hp q).base).toNat+0)*2^(8*0)<=255;simp only[Nat.add_zero,Nat.mul_zero,Int.pow_zero,Int.mul_one,Int.zero_add];exact hd.2
 ·clear hf
  rw[trW_t (show wrB 22=true by kernel_rfl),trZ_f (show fgB 22=false by kernel_rfl),trZ_f (show fgB 22=false by kernel_rfl)];have ha:=hacc (by decide) (by decide);rw[opA_t (show bitB 22 2=true by kernel_rfl),opB_f (show bitB 22 4=false by kernel_rfl)]at ha;have hq:q<nH:=hqi (acc_ok ha).1 (acc_ok ha).2.1;obtain⟨h1,h2,h3,h4,h5⟩:=mem_in (t:=imm) (u:=imm%18446744073709551616) (y:=0) (wd:=8) ok p hia hq ha (by decide) (by omega) (by omega) (by decide) rfl (adrN M ia imm) (by unfold adrN;rw[IntKind.wrap_u64,IntKind.wrap_u64]);refine⟨(M.see 1 (adrN M ia imm)).setR di (loadV (M.Hp q).dat ((adrN M ia imm)-(M.Hp q).base).toNat 8),?_,?_,?_⟩
  ·show memOp false 8 (adrN M ia imm) di q M nx=_
   unfold memOp;rw[if_neg h1,show(lies (M.Hp q).base (adrN M ia imm) ((8:Nat):Int) (M.Hp q).len&&(!false||(M.Hp q).wr))=true from by rw[h2];rfl,if_pos rfl,if_neg (by decide)]
  ·rfl
  ·refine(p.see 1 _).set ?_
   exact hold_num (by omega)
 ·clear hf
  rw[trW_f (show wrB 23=false by kernel_rfl),trZ_f (show fgB 23=false by kernel_rfl),trZ_f (show fgB 23=false by kernel_rfl)];have ha:=hacc (by decide) (by decide);rw[opA_t (show bitB 23 2=true by kernel_rfl),opB_f (show bitB 23 4=false by kernel_rfl)]at ha;have hq:q<nH:=hqi (acc_ok ha).1 (acc_ok ha).2.1;obtain⟨h1,h2,h3,h4,h5⟩:=mem_in (t:=imm) (u:=imm%18446744073709551616) (y:=0) (wd:=1) ok p hia hq ha (by decide) (by omega) (by omega) (by decide) rfl (adrN M ia imm) (by unfold adrN;rw[IntKind.wrap_u64,IntKind.wrap_u64]);refine⟨(M.see 1 (adrN M ia imm)).pokeN q ((adrN M ia imm)-(M.Hp q).base).toNat (M.R di) 1,?_,?_,?_⟩
  ·show memOp true 1 (adrN M ia imm) di q M nx=_
   unfold memOp;rw[if_neg h1,show(lies (M.Hp q).base (adrN M ia imm) ((1:Nat):Int) (M.Hp q).len&&(!true||(M.Hp q).wr))=true from by rw[h2,h5 (by decide)];rfl,if_pos rfl,if_pos rfl]
  ·exact((p.see 1 _).pokeN q _ _ 1).2
  ·exact((p.see 1 _).pokeN q _ _ 1).1
 ·clear hf
  rw[trW_f (show wrB 24=false by kernel_rfl),trZ_f (show fgB 24=false by kernel_rfl),trZ_f (show fgB 24=false by kernel_rfl)];have ha:=hacc (by decide) (by decide);rw[opA_t (show bitB 24 2=true by kernel_rfl),opB_f (show bitB 24 4=false by kernel_rfl)]at ha;have hq:q<nH:=hqi (acc_ok ha).1 (acc_ok ha).2.1;obtain⟨h1,h2,h3,h4,h5⟩:=mem_in (t:=imm) (u:=imm%18446744073709551616) (y:=0) (wd:=8) ok p hia hq ha (by decide) (by omega) (by omega) (by decide) rfl (adrN M ia imm) (by unfold adrN;rw[IntKind.wrap_u64,IntKind.wrap_u64]);refine⟨(M.see 1 (adrN M ia imm)).pokeN q ((adrN M ia imm)-(M.Hp q).base).toNat (M.R di) 8,?_,?_,?_⟩
  ·show memOp true 8 (adrN M ia imm) di q M nx=_
   unfold memOp;rw[if_neg h1,show(lies (M.Hp q).base (adrN M ia imm) ((8:Nat):Int) (M.Hp q).len&&(!true||(M.Hp q).wr))=true from by rw[h2,h5 (by decide)];rfl,if_pos rfl,if_pos rfl]
  ·exact((p.see 1 _).pokeN q _ _ 8).2
  ·exact((p.see 1 _).pokeN q _ _ 8).1
 ·clear hf
  rw[trW_t (show wrB 25=true by kernel_rfl),trZ_f (show fgB 25=false by kernel_rfl),trZ_f (show fgB 25=false by kernel_rfl)];have hi0:imm=0:=imm_none hik (by kernel_rfl);subst hi0;have ha:=hacc (by decide) (by decide);rw[opA_t (show bitB 25 2=true by kernel_rfl),opB_t (show bitB 25 4=true by kernel_rfl)]at ha;have hq:q<nH:=hqi (acc_ok ha).1 (acc_ok ha).2.1;obtain⟨_,hy,_,_⟩:=hold_max gb (acc_ok ha).2.2.1;obtain⟨h1,h2,h3,h4,h5⟩:=mem_in (t:=M.R ib) (u:=M.R ib) (y:=M.R ib) (wd:=1) ok p hia hq ha (by decide) (by omega) y0 hy (by omega) (adrX M ia ib) (by unfold adrX;rw[IntKind.wrap_u64]);refine⟨(M.see 1 (adrX M ia ib)).setR di (loadV (M.Hp q).dat ((adrX M ia ib)-(M.Hp q).base).toNat 1),?_,?_,?_⟩
  ·show memOp false 1 (adrX M ia ib) di q M nx=_
   unfold memOp;rw[if_neg h1,show(lies (M.Hp q).base (adrX M ia ib) ((1:Nat):Int) (M.Hp q).len&&(!false||(M.Hp q).wr))=true from by rw[h2];rfl,if_pos rfl,if_neg (by decide)]
  ·rfl
  ·refine(p.see 1 _).set ?_
   have hd:=ok.dat q (by omega) ((adrX M ia ib)-(M.Hp q).base).toNat (by omega);refine hold_num (Or.inr (Or.inr ?_));show 0+(M.Hp q).dat (((adrX M ia ib)-(M.Hp q).base).toNat+0)*2^(8*0)<=255;simp only[Nat.add_zero,Nat.mul_zero,Int.pow_zero,Int.mul_one,Int.zero_add];exact hd.2
 ·clear hf
  rw[trW_t (show wrB 26=true by kernel_rfl),trZ_f (show fgB 26=false by kernel_rfl),trZ_f (show fgB 26=false by kernel_rfl)];have hi0:imm=0:=imm_none hik (by kernel_rfl);subst hi0;have ha:=hacc (by decide) (by decide);rw[opA_t (show bitB 26 2=true by kernel_rfl),opB_t (show bitB 26 4=true by kernel_rfl)]at ha;have hq:q<nH:=hqi (acc_ok ha).1 (acc_ok ha).2.1;obtain⟨_,hy,_,_⟩:=hold_max gb (acc_ok ha).2.2.1;obtain⟨h1,h2,h3,h4,h5⟩:=mem_in (t:=M.R ib) (u:=M.R ib) (y:=M.R ib) (wd:=8) ok p hia hq ha (by decide) (by omega) y0 hy (by omega) (adrX M ia ib) (by unfold adrX;rw[IntKind.wrap_u64]);refine⟨(M.see 1 (adrX M ia ib)).setR di (loadV (M.Hp q).dat ((adrX M ia ib)-(M.Hp q).base).toNat 8),?_,?_,?_⟩
  ·show memOp false 8 (adrX M ia ib) di q M nx=_
   unfold memOp;rw[if_neg h1,show(lies (M.Hp q).base (adrX M ia ib) ((8:Nat):Int) (M.Hp q).len&&(!false||(M.Hp q).wr))=true from by rw[h2];rfl,if_pos rfl,if_neg (by decide)]
  ·rfl
  ·refine(p.see 1 _).set ?_
   exact hold_num (by omega)
 ·clear hf
  rw[trW_f (show wrB 27=false by kernel_rfl),trZ_f (show fgB 27=false by kernel_rfl),trZ_f (show fgB 27=false by kernel_rfl)];have hi0:imm=0:=imm_none hik (by kernel_rfl);subst hi0;have ha:=hacc (by decide) (by decide);rw[opA_t (show bitB 27 2=true by kernel_rfl),opB_t (show bitB 27 4=true by kernel_rfl)]at ha;have hq:q<nH:=hqi (acc_ok ha).1 (acc_ok ha).2.1;obtain⟨_,hy,_,_⟩:=hold_max gb (acc_ok ha).2.2.1;obtain⟨h1,h2,h3,h4,h5⟩:=mem_in (t:=M.R ib) (u:=M.R ib) (y:=M.R ib) (wd:=1) ok p hia hq ha (by decide) (by omega) y0 hy (by omega) (adrX M ia ib) (by unfold adrX;rw[IntKind.wrap_u64]);refine⟨(M.see 1 (adrX M ia ib)).pokeN q ((adrX M ia ib)-(M.Hp q).base).toNat (M.R di) 1,?_,?_,?_⟩
  ·show memOp true 1 (adrX M ia ib) di q M nx=_
   unfold memOp;rw[if_neg h1,show(lies (M.Hp q).base (adrX M ia ib) ((1:Nat):Int) (M.Hp q).len&&(!true||(M.Hp q).wr))=true from by rw[h2,h5 (by decide)];rfl,if_pos rfl,if_pos rfl]
  ·exact((p.see 1 _).pokeN q _ _ 1).2
  ·exact((p.see 1 _).pokeN q _ _ 1).1
 ·clear hf
  rw[trW_f (show wrB 28=false by kernel_rfl),trZ_f (show fgB 28=false by kernel_rfl),trZ_f (show fgB 28=false by kernel_rfl)];have hi0:imm=0:=imm_none hik (by kernel_rfl);subst hi0;have ha:=hacc (by decide) (by decide);rw[opA_t (show bitB 28 2=true by kernel_rfl),opB_t (show bitB 28 4=true by kernel_rfl)]at ha;have hq:q<nH:=hqi (acc_ok ha).1 (acc_ok ha).2.1;obtain⟨_,hy,_,_⟩:=hold_max gb (acc_ok ha).2.2.1;obtain⟨h1,h2,h3,h4,h5⟩:=mem_in (t:=M.R ib) (u:=M.R ib) (y:=M.R ib) (wd:=8) ok p hia hq ha (by decide) (by omega) y0 hy (by omega) (adrX M ia ib) (by unfold adrX;rw[IntKind.wrap_u64]);refine⟨(M.see 1 (adrX M ia ib)).pokeN q ((adrX M ia ib)-(M.Hp q).base).toNat (M.R di) 8,?_,?_,?_⟩
  ·show memOp true 8 (adrX M ia ib) di q M nx=_
   unfold memOp;rw[if_neg h1,show(lies (M.Hp q).base (adrX M ia ib) ((8:Nat):Int) (M.Hp q).len&&(!true||(M.Hp q).wr))=true from by rw[h2,h5 (by decide)];rfl,if_pos rfl,if_pos rfl]
  ·exact((p.see 1 _).pokeN q _ _ 8).2
  ·exact((p.see 1 _).pokeN q _ _ 8).1
end
end Go.Proofs.YtbahofiiaodpdaaGreat
