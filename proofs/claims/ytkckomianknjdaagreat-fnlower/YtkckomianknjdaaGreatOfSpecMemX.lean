import Derived.Test.YtkckomianknjdaaGreatOfCoreF
import Derived.Test.YtkckomianknjdaaGreatSpecRestL
import Derived.Test.YtkckomianknjdaaGreatSpecRestS
set_option maxHeartbeats 40000000
set_option maxRecDepth 1000000
namespace Go.Proofs.YtkckomianknjdaaGreat
open Go.RowKit
section
variable{w:World}{base:Nat}{p:Pl}{M:MV}
theorem SE(o:Mem w base p M)(q:M.Ok)(n d a b h:Nat)(j:Int)(O:d<8)(L:a<8)(N:b<8)(hn:M.nO<=1048576)(Y:n=21∨n=22):
 Calls Tryz.prog 75 #[.agg #[Vs p.bR 8 p.cR,.bool M.z,.bool M.c,.bool M.hz,.bool M.hc,.slice p.aH M.nH p.cH,Vi M.pc,Vi M.st,.slice p.aO M.nO p.cO],.agg #[Vi n,Vi d,Vi a,Vi b,Vi j,Vi h]] w fun e w'=>PG base w (Ew n d a b h j M) e w'/\∀k,k<w.heap.size->Off p M.nH M.nO k->w'.heap[k]?=w.heap[k]?:=by
 have af:(d:Int)<8:=AB;have ad:(a:Int)<8:=AB;have ae:(b:Int)<8:=AB;have ra:=o.reg L;have rb:=o.reg N;have rd:=o.reg O;have fd:=o.freeR d;have S:=o.ltR.2;have pa:=q.reg a L;have pb:=q.reg b N;obtain⟨ag,ah⟩:=pa;obtain⟨ai,aj⟩:=pb;have ab:=hxy q.heap;have aa:=hxy q.dat;have pd:=q.reg d O;obtain⟨ak,al⟩:=pd;have H0:=hxy o;have HK:Hid M.Ok:=q;clear o q;go_enter Tryz.func75,Tryz.ntmps75;go_upto_region 1 with fail;generalize m:((w.alloc (.cells #[Vs p.bR 8 p.cR,.bool M.z,.bool M.c,.bool M.hz,.bool M.hc,.slice p.aH M.nH p.cH,Vi M.pc,Vi M.st,.slice p.aO M.nO p.cO] 28)).alloc (.cells #[Vi n,Vi d,Vi a,Vi b,Vi j,Vi h] 85)).alloc (.cells #[.slice none 0 0,.bool false,.bool false,.bool false,.bool false,.slice none 0 0,Vi 0,Vi 0,.slice none 0 0] 28)=l;have r:Bw w l:=by rw[<-m];exact((Ah).alloc AY _).alloc (by simp;omega) _
 have z0:l.heap.size=w.heap.size+3:=by rw[<-m];simp
 have J:l.ownsRow w.heap.size 28 9 (Vs w.heap.size 1 1) 1 [Vs p.bR 8 p.cR,.bool M.z,.bool M.c,.bool M.hz,.bool M.hc,.slice p.aH M.nH p.cH,Vi M.pc,Vi M.st,.slice p.aO M.nO p.cO]:=by rw[<-m];exact((World.ownsRow_lit w #[Vs p.bR 8 p.cR,.bool M.z,.bool M.c,.bool M.hz,.bool M.hc,.slice p.aH M.nH p.cH,Vi M.pc,Vi M.st,.slice p.aO M.nO p.cO] 1 BP (by unfold maxLen;omega) rfl).alloc _).alloc _
 have U:l.ownsRow w.heap.size 85 6 (.slice (some ⟨w.heap.size+1,0,none⟩) 1 1) 1 [Vi n,Vi d,Vi a,Vi b,Vi j,Vi h]:=by
  rw[<-m];have:=(World.ownsRow_lit (base:=w.heap.size) (e:=85) (size:=6) (w.alloc (.cells #[Vs p.bR 8 p.cR,.bool M.z,.bool M.c,.bool M.hz,.bool M.hc,.slice p.aH M.nH p.cH,Vi M.pc,Vi M.st,.slice p.aO M.nO p.cO] 28)) #[Vi n,Vi d,Vi a,Vi b,Vi j,Vi h] 1 AY (by unfold maxLen;omega) rfl).alloc (.cells #[.slice none 0 0,.bool false,.bool false,.bool false,.bool false,.slice none 0 0,Vi 0,Vi 0,.slice none 0 0] 28);rw[World.size_alloc]at this;exact this
 have K:l.ownsRow w.heap.size 28 9 (.slice (some ⟨w.heap.size+1+1,0,none⟩) 1 1) 1 [.slice none 0 0,.bool false,.bool false,.bool false,.bool false,.slice none 0 0,Vi 0,Vi 0,.slice none 0 0]:=by
  rw[<-m];have:=World.ownsRow_lit (base:=w.heap.size) (e:=28) (size:=9) ((w.alloc (.cells #[Vs p.bR 8 p.cR,.bool M.z,.bool M.c,.bool M.hz,.bool M.hc,.slice p.aH M.nH p.cH,Vi M.pc,Vi M.st,.slice p.aO M.nO p.cO] 28)).alloc (.cells #[Vi n,Vi d,Vi a,Vi b,Vi j,Vi h] 85)) #[.slice none 0 0,.bool false,.bool false,.bool false,.bool false,.slice none 0 0,Vi 0,Vi 0,.slice none 0 0] 1 (by simp;omega) (by unfold maxLen;omega) rfl;rw[World.size_alloc,World.size_alloc]at this;exact this
 have m0:=BX J;have i0:=Gc U;obtain⟨s0,s1,s2,s3,s4,s5,s6,Q,s8⟩:=BX K;have mf:∀i,l.frozen? ⟨w.heap.size,i,none⟩=false:=fun i=>J.frozenAt i
 have sf:∀i,l.frozen? ⟨w.heap.size+1+1,i,none⟩=false:=fun i=>K.frozenAt i
 have am:=(r.cell (p:=⟨p.bR,a,none⟩) S).trans ra;have an:=(r.cell (p:=⟨p.bR,b,none⟩) S).trans rb;have ao:=(r.cell (p:=⟨p.bR,d,none⟩) S).trans rd;have ac:=(r.frozen (p:=⟨p.bR,d,none⟩) S).trans fd;have ap:p.bR<l.heap.size:=AB;have y0:w.heap.size<l.heap.size:=AB;have y1:w.heap.size+1<l.heap.size:=AB;have y2:w.heap.size+1+1<l.heap.size:=AB;have n0:p.bR≠w.heap.size:=AB;have n1:p.bR≠w.heap.size+1:=AB;have n2:p.bR≠w.heap.size+1+1:=AB;have u:=hxy r;have y:=hxy J;have B:=hxy K;have x:=hxy U;have C:=hxy z0;clear m r J U K z0 ra rb rd fd;go_wp2_with fail;go_cut [5]from 12(fun s5 I=>s5=.int .u64 (IntKind.u64.wrap (M.R a+IntKind.u64.wrap j))/\I=l.drew)
 case first=>
  go_region;all_goals
   go_wp2_with fail;go_meet;exact⟨rfl,rfl⟩
 case rest=>
 obtain⟨rfl,rfl⟩:=hcut;have hA:=Di (M.R a+IntKind.u64.wrap j);have HE:Hid (∀k2,n=k2->Ew n d a b h j M=Ew k2 d a b h j M):=fun _ e=>by rw[e]
 generalize F:IntKind.u64.wrap (M.R a+IntKind.u64.wrap j)=A at hA⊢;have s:=hxy F;obtain⟨D,E⟩:=hA;clear F;rcases Y with rfl|rfl
 ·go_upto_region 7 with fail
  go_cut [7]from 12(fun Q I=>Q=.bool false/\I=l.drew)
  case first=>
   go_wp2_with fail;go_meet;exact⟨rfl,rfl⟩
  case rest=>
  obtain⟨rfl,rfl⟩:=hcut;refine(by assumption:∀(X:Act)(Z:World),_->_) _ _ ?_;exact L9 H0 HK _ 1 d a b h j O L N hn _ A (by rw[<-s.out];rfl) D E Aa Aa u C y x B Al.drew rfl
 ·go_upto_region 7 with fail
  go_cut [7]from 12(fun Q I=>Q=.bool false/\I=l.drew)
  case first=>
   go_wp2_with fail;go_meet;exact⟨rfl,rfl⟩
  case rest=>
  obtain⟨rfl,rfl⟩:=hcut;refine(by assumption:∀(X:Act)(Z:World),_->_) _ _ ?_;exact L9 H0 HK _ 8 d a b h j O L N hn _ A (by rw[<-s.out];rfl) D E Aa Aa u C y x B Al.drew rfl
theorem SY(o:Mem w base p M)(q:M.Ok)(n d a b h:Nat)(j:Int)(O:d<8)(L:a<8)(N:b<8)(hn:M.nO<=1048576)(Y:n=23∨n=24):
 Calls Tryz.prog 75 #[.agg #[Vs p.bR 8 p.cR,.bool M.z,.bool M.c,.bool M.hz,.bool M.hc,.slice p.aH M.nH p.cH,Vi M.pc,Vi M.st,.slice p.aO M.nO p.cO],.agg #[Vi n,Vi d,Vi a,Vi b,Vi j,Vi h]] w fun e w'=>PG base w (Ew n d a b h j M) e w'/\∀k,k<w.heap.size->Off p M.nH M.nO k->w'.heap[k]?=w.heap[k]?:=by
 have af:(d:Int)<8:=AB;have ad:(a:Int)<8:=AB;have ae:(b:Int)<8:=AB;have ra:=o.reg L;have rb:=o.reg N;have rd:=o.reg O;have fd:=o.freeR d;have S:=o.ltR.2;have pa:=q.reg a L;have pb:=q.reg b N;obtain⟨ag,ah⟩:=pa;obtain⟨ai,aj⟩:=pb;have ab:=hxy q.heap;have aa:=hxy q.dat;have pd:=q.reg d O;obtain⟨ak,al⟩:=pd;have H0:=hxy o;have HK:Hid M.Ok:=q;clear o q;go_enter Tryz.func75,Tryz.ntmps75;go_upto_region 1 with fail;generalize m:((w.alloc (.cells #[Vs p.bR 8 p.cR,.bool M.z,.bool M.c,.bool M.hz,.bool M.hc,.slice p.aH M.nH p.cH,Vi M.pc,Vi M.st,.slice p.aO M.nO p.cO] 28)).alloc (.cells #[Vi n,Vi d,Vi a,Vi b,Vi j,Vi h] 85)).alloc (.cells #[.slice none 0 0,.bool false,.bool false,.bool false,.bool false,.slice none 0 0,Vi 0,Vi 0,.slice none 0 0] 28)=l;have r:Bw w l:=by rw[<-m];exact((Ah).alloc AY _).alloc (by simp;omega) _
 have z0:l.heap.size=w.heap.size+3:=by rw[<-m];simp
 have J:l.ownsRow w.heap.size 28 9 (Vs w.heap.size 1 1) 1 [Vs p.bR 8 p.cR,.bool M.z,.bool M.c,.bool M.hz,.bool M.hc,.slice p.aH M.nH p.cH,Vi M.pc,Vi M.st,.slice p.aO M.nO p.cO]:=by rw[<-m];exact((World.ownsRow_lit w #[Vs p.bR 8 p.cR,.bool M.z,.bool M.c,.bool M.hz,.bool M.hc,.slice p.aH M.nH p.cH,Vi M.pc,Vi M.st,.slice p.aO M.nO p.cO] 1 BP (by unfold maxLen;omega) rfl).alloc _).alloc _
 have U:l.ownsRow w.heap.size 85 6 (.slice (some ⟨w.heap.size+1,0,none⟩) 1 1) 1 [Vi n,Vi d,Vi a,Vi b,Vi j,Vi h]:=by
  rw[<-m];have:=(World.ownsRow_lit (base:=w.heap.size) (e:=85) (size:=6) (w.alloc (.cells #[Vs p.bR 8 p.cR,.bool M.z,.bool M.c,.bool M.hz,.bool M.hc,.slice p.aH M.nH p.cH,Vi M.pc,Vi M.st,.slice p.aO M.nO p.cO] 28)) #[Vi n,Vi d,Vi a,Vi b,Vi j,Vi h] 1 AY (by unfold maxLen;omega) rfl).alloc (.cells #[.slice none 0 0,.bool false,.bool false,.bool false,.bool false,.slice none 0 0,Vi 0,Vi 0,.slice none 0 0] 28);rw[World.size_alloc]at this;exact this
 have K:l.ownsRow w.heap.size 28 9 (.slice (some ⟨w.heap.size+1+1,0,none⟩) 1 1) 1 [.slice none 0 0,.bool false,.bool false,.bool false,.bool false,.slice none 0 0,Vi 0,Vi 0,.slice none 0 0]:=by
  rw[<-m];have:=World.ownsRow_lit (base:=w.heap.size) (e:=28) (size:=9) ((w.alloc (.cells #[Vs p.bR 8 p.cR,.bool M.z,.bool M.c,.bool M.hz,.bool M.hc,.slice p.aH M.nH p.cH,Vi M.pc,Vi M.st,.slice p.aO M.nO p.cO] 28)).alloc (.cells #[Vi n,Vi d,Vi a,Vi b,Vi j,Vi h] 85)) #[.slice none 0 0,.bool false,.bool false,.bool false,.bool false,.slice none 0 0,Vi 0,Vi 0,.slice none 0 0] 1 (by simp;omega) (by unfold maxLen;omega) rfl;rw[World.size_alloc,World.size_alloc]at this;exact this
 have m0:=BX J;have i0:=Gc U;obtain⟨s0,s1,s2,s3,s4,s5,s6,Q,s8⟩:=BX K;have mf:∀i,l.frozen? ⟨w.heap.size,i,none⟩=false:=fun i=>J.frozenAt i
 have sf:∀i,l.frozen? ⟨w.heap.size+1+1,i,none⟩=false:=fun i=>K.frozenAt i
 have am:=(r.cell (p:=⟨p.bR,a,none⟩) S).trans ra;have an:=(r.cell (p:=⟨p.bR,b,none⟩) S).trans rb;have ao:=(r.cell (p:=⟨p.bR,d,none⟩) S).trans rd;have ac:=(r.frozen (p:=⟨p.bR,d,none⟩) S).trans fd;have ap:p.bR<l.heap.size:=AB;have y0:w.heap.size<l.heap.size:=AB;have y1:w.heap.size+1<l.heap.size:=AB;have y2:w.heap.size+1+1<l.heap.size:=AB;have n0:p.bR≠w.heap.size:=AB;have n1:p.bR≠w.heap.size+1:=AB;have n2:p.bR≠w.heap.size+1+1:=AB;have u:=hxy r;have y:=hxy J;have B:=hxy K;have x:=hxy U;have C:=hxy z0;clear m r J U K z0 ra rb rd fd;go_wp2_with fail;go_cut [5]from 12(fun s5 I=>s5=.int .u64 (IntKind.u64.wrap (M.R a+IntKind.u64.wrap j))/\I=l.drew)
 case first=>
  go_region;all_goals
   go_wp2_with fail;go_meet;exact⟨rfl,rfl⟩
 case rest=>
 obtain⟨rfl,rfl⟩:=hcut;have hA:=Di (M.R a+IntKind.u64.wrap j);have HE:Hid (∀k2,n=k2->Ew n d a b h j M=Ew k2 d a b h j M):=fun _ e=>by rw[e]
 generalize F:IntKind.u64.wrap (M.R a+IntKind.u64.wrap j)=A at hA⊢;have s:=hxy F;obtain⟨D,E⟩:=hA;clear F;rcases Y with rfl|rfl
 ·go_upto_region 7 with fail
  go_cut [7]from 12(fun Q I=>Q=.bool true/\I=l.drew)
  case first=>
   go_wp2_with fail;go_meet;exact⟨rfl,rfl⟩
  case rest=>
  obtain⟨rfl,rfl⟩:=hcut;refine(by assumption:∀(X:Act)(Z:World),_->_) _ _ ?_;exact L6 H0 HK _ 1 d a b h j O L N hn _ A (by rw[<-s.out];rfl) D E Aa Aa u C y x B Al.drew rfl
 ·go_upto_region 7 with fail
  go_cut [7]from 12(fun Q I=>Q=.bool true/\I=l.drew)
  case first=>
   go_wp2_with fail;go_meet;exact⟨rfl,rfl⟩
  case rest=>
  obtain⟨rfl,rfl⟩:=hcut;refine(by assumption:∀(X:Act)(Z:World),_->_) _ _ ?_;exact L6 H0 HK _ 8 d a b h j O L N hn _ A (by rw[<-s.out];rfl) D E Aa Aa u C y x B Al.drew rfl
end
section
variable{w:World}{base:Nat}{p:Pl}{M:MV}
theorem Qp(o:Mem w base p M)(q:M.Ok)(n d a b h:Nat)(j:Int)(O:d<8)(L:a<8)(N:b<8)(hn:M.nO<=1048576)(Z:n=25∨n=26):
 Calls Tryz.prog 75 #[.agg #[Vs p.bR 8 p.cR,.bool M.z,.bool M.c,.bool M.hz,.bool M.hc,.slice p.aH M.nH p.cH,Vi M.pc,Vi M.st,.slice p.aO M.nO p.cO],.agg #[Vi n,Vi d,Vi a,Vi b,Vi j,Vi h]] w fun e w'=>PG base w (Ew n d a b h j M) e w'/\∀k,k<w.heap.size->Off p M.nH M.nO k->w'.heap[k]?=w.heap[k]?:=by
 have ah:(d:Int)<8:=AB;have af:(a:Int)<8:=AB;have ag:(b:Int)<8:=AB;have ra:=o.reg L;have rb:=o.reg N;have rd:=o.reg O;have fd:=o.freeR d;have U:=o.ltR.2;have pa:=q.reg a L;have pb:=q.reg b N;obtain⟨ai,aj⟩:=pa;obtain⟨ak,al⟩:=pb;have ac:=hxy q.heap;have ab:=hxy q.dat;have pd:=q.reg d O;obtain⟨am,an⟩:=pd;have H0:=hxy o;have HK:Hid M.Ok:=q;clear o q;go_enter Tryz.func75,Tryz.ntmps75;go_upto_region 1 with fail;generalize m:((w.alloc (.cells #[Vs p.bR 8 p.cR,.bool M.z,.bool M.c,.bool M.hz,.bool M.hc,.slice p.aH M.nH p.cH,Vi M.pc,Vi M.st,.slice p.aO M.nO p.cO] 28)).alloc (.cells #[Vi n,Vi d,Vi a,Vi b,Vi j,Vi h] 85)).alloc (.cells #[.slice none 0 0,.bool false,.bool false,.bool false,.bool false,.slice none 0 0,Vi 0,Vi 0,.slice none 0 0] 28)=l;have s:Bw w l:=by rw[<-m];exact((Ah).alloc AY _).alloc (by simp;omega) _
 have z0:l.heap.size=w.heap.size+3:=by rw[<-m];simp
 have J:l.ownsRow w.heap.size 28 9 (Vs w.heap.size 1 1) 1 [Vs p.bR 8 p.cR,.bool M.z,.bool M.c,.bool M.hz,.bool M.hc,.slice p.aH M.nH p.cH,Vi M.pc,Vi M.st,.slice p.aO M.nO p.cO]:=by rw[<-m];exact((World.ownsRow_lit w #[Vs p.bR 8 p.cR,.bool M.z,.bool M.c,.bool M.hz,.bool M.hc,.slice p.aH M.nH p.cH,Vi M.pc,Vi M.st,.slice p.aO M.nO p.cO] 1 BP (by unfold maxLen;omega) rfl).alloc _).alloc _
 have X:l.ownsRow w.heap.size 85 6 (.slice (some ⟨w.heap.size+1,0,none⟩) 1 1) 1 [Vi n,Vi d,Vi a,Vi b,Vi j,Vi h]:=by
  rw[<-m];have:=(World.ownsRow_lit (base:=w.heap.size) (e:=85) (size:=6) (w.alloc (.cells #[Vs p.bR 8 p.cR,.bool M.z,.bool M.c,.bool M.hz,.bool M.hc,.slice p.aH M.nH p.cH,Vi M.pc,Vi M.st,.slice p.aO M.nO p.cO] 28)) #[Vi n,Vi d,Vi a,Vi b,Vi j,Vi h] 1 AY (by unfold maxLen;omega) rfl).alloc (.cells #[.slice none 0 0,.bool false,.bool false,.bool false,.bool false,.slice none 0 0,Vi 0,Vi 0,.slice none 0 0] 28);rw[World.size_alloc]at this;exact this
 have K:l.ownsRow w.heap.size 28 9 (.slice (some ⟨w.heap.size+1+1,0,none⟩) 1 1) 1 [.slice none 0 0,.bool false,.bool false,.bool false,.bool false,.slice none 0 0,Vi 0,Vi 0,.slice none 0 0]:=by
  rw[<-m];have:=World.ownsRow_lit (base:=w.heap.size) (e:=28) (size:=9) ((w.alloc (.cells #[Vs p.bR 8 p.cR,.bool M.z,.bool M.c,.bool M.hz,.bool M.hc,.slice p.aH M.nH p.cH,Vi M.pc,Vi M.st,.slice p.aO M.nO p.cO] 28)).alloc (.cells #[Vi n,Vi d,Vi a,Vi b,Vi j,Vi h] 85)) #[.slice none 0 0,.bool false,.bool false,.bool false,.bool false,.slice none 0 0,Vi 0,Vi 0,.slice none 0 0] 1 (by simp;omega) (by unfold maxLen;omega) rfl;rw[World.size_alloc,World.size_alloc]at this;exact this
 have m0:=BX J;have i0:=Gc X;obtain⟨s0,s1,s2,s3,s4,Q,s6,S,s8⟩:=BX K;have mf:∀i,l.frozen? ⟨w.heap.size,i,none⟩=false:=fun i=>J.frozenAt i
 have sf:∀i,l.frozen? ⟨w.heap.size+1+1,i,none⟩=false:=fun i=>K.frozenAt i
 have ao:=(s.cell (p:=⟨p.bR,a,none⟩) U).trans ra;have ap:=(s.cell (p:=⟨p.bR,b,none⟩) U).trans rb;have ar:=(s.cell (p:=⟨p.bR,d,none⟩) U).trans rd;have ad:=(s.frozen (p:=⟨p.bR,d,none⟩) U).trans fd;have au:p.bR<l.heap.size:=AB;have y0:w.heap.size<l.heap.size:=AB;have y1:w.heap.size+1<l.heap.size:=AB;have y2:w.heap.size+1+1<l.heap.size:=AB;have n0:p.bR≠w.heap.size:=AB;have n1:p.bR≠w.heap.size+1:=AB;have n2:p.bR≠w.heap.size+1+1:=AB;have x:=hxy s;have B:=hxy J;have C:=hxy K;have y:=hxy X;have D:=hxy z0;clear m s J X K z0 ra rb rd fd;go_wp2_with fail;go_cut [5]from 12(fun Q r=>Q=.int .u64 (IntKind.u64.wrap (M.R a+IntKind.u64.wrap j))/\r=l.drew)
 case first=>
  go_region;all_goals
   go_wp2_with fail;go_meet;exact⟨rfl,rfl⟩
 case rest=>
 obtain⟨rfl,rfl⟩:=hcut;have ae:(25:Int)<=n:=AB;go_upto_region 3 with fail;go_cut [5]from 12(fun Q r=>Q=.int .u64 (IntKind.u64.wrap (M.R a+M.R b))/\r=l.drew.drew)
 case first=>
  go_region;all_goals
   go_wp2_with fail;go_meet;exact⟨rfl,rfl⟩
 case rest=>
 obtain⟨rfl,rfl⟩:=hcut;have hA:=Di (M.R a+M.R b);have HE:Hid (∀k2,n=k2->Ew n d a b h j M=Ew k2 d a b h j M):=fun _ e=>by rw[e]
 generalize I:IntKind.u64.wrap (M.R a+M.R b)=A at hA⊢;have u:=hxy I;obtain⟨E,F⟩:=hA;clear I;rcases Z with rfl|rfl
 ·go_upto_region 7 with fail
  go_cut [7]from 12(fun S r=>S=.bool false/\r=l.drew.drew)
  case first=>
   go_wp2_with fail;go_meet;exact⟨rfl,rfl⟩
  case rest=>
  obtain⟨rfl,rfl⟩:=hcut;refine(by assumption:∀(Y:Act)(aa:World),_->_) _ _ ?_;exact L9 H0 HK _ 1 d a b h j O L N hn _ A (by rw[<-u.out];rfl) E F Aa Aa x D B y C Al.drew.drew rfl
 ·go_upto_region 7 with fail
  go_cut [7]from 12(fun S r=>S=.bool false/\r=l.drew.drew)
  case first=>
   go_wp2_with fail;go_meet;exact⟨rfl,rfl⟩
  case rest=>
  obtain⟨rfl,rfl⟩:=hcut;refine(by assumption:∀(Y:Act)(aa:World),_->_) _ _ ?_;exact L9 H0 HK _ 8 d a b h j O L N hn _ A (by rw[<-u.out];rfl) E F Aa Aa x D B y C Al.drew.drew rfl
theorem Qn(o:Mem w base p M)(q:M.Ok)(n d a b h:Nat)(j:Int)(O:d<8)(L:a<8)(N:b<8)(hn:M.nO<=1048576)(Z:n=27∨n=28):
 Calls Tryz.prog 75 #[.agg #[Vs p.bR 8 p.cR,.bool M.z,.bool M.c,.bool M.hz,.bool M.hc,.slice p.aH M.nH p.cH,Vi M.pc,Vi M.st,.slice p.aO M.nO p.cO],.agg #[Vi n,Vi d,Vi a,Vi b,Vi j,Vi h]] w fun e w'=>PG base w (Ew n d a b h j M) e w'/\∀k,k<w.heap.size->Off p M.nH M.nO k->w'.heap[k]?=w.heap[k]?:=by
 have ah:(d:Int)<8:=AB;have af:(a:Int)<8:=AB;have ag:(b:Int)<8:=AB;have ra:=o.reg L;have rb:=o.reg N;have rd:=o.reg O;have fd:=o.freeR d;have U:=o.ltR.2;have pa:=q.reg a L;have pb:=q.reg b N;obtain⟨ai,aj⟩:=pa;obtain⟨ak,al⟩:=pb;have ac:=hxy q.heap;have ab:=hxy q.dat;have pd:=q.reg d O;obtain⟨am,an⟩:=pd;have H0:=hxy o;have HK:Hid M.Ok:=q;clear o q;go_enter Tryz.func75,Tryz.ntmps75;go_upto_region 1 with fail;generalize m:((w.alloc (.cells #[Vs p.bR 8 p.cR,.bool M.z,.bool M.c,.bool M.hz,.bool M.hc,.slice p.aH M.nH p.cH,Vi M.pc,Vi M.st,.slice p.aO M.nO p.cO] 28)).alloc (.cells #[Vi n,Vi d,Vi a,Vi b,Vi j,Vi h] 85)).alloc (.cells #[.slice none 0 0,.bool false,.bool false,.bool false,.bool false,.slice none 0 0,Vi 0,Vi 0,.slice none 0 0] 28)=l;have s:Bw w l:=by rw[<-m];exact((Ah).alloc AY _).alloc (by simp;omega) _
 have z0:l.heap.size=w.heap.size+3:=by rw[<-m];simp
 have J:l.ownsRow w.heap.size 28 9 (Vs w.heap.size 1 1) 1 [Vs p.bR 8 p.cR,.bool M.z,.bool M.c,.bool M.hz,.bool M.hc,.slice p.aH M.nH p.cH,Vi M.pc,Vi M.st,.slice p.aO M.nO p.cO]:=by rw[<-m];exact((World.ownsRow_lit w #[Vs p.bR 8 p.cR,.bool M.z,.bool M.c,.bool M.hz,.bool M.hc,.slice p.aH M.nH p.cH,Vi M.pc,Vi M.st,.slice p.aO M.nO p.cO] 1 BP (by unfold maxLen;omega) rfl).alloc _).alloc _
 have X:l.ownsRow w.heap.size 85 6 (.slice (some ⟨w.heap.size+1,0,none⟩) 1 1) 1 [Vi n,Vi d,Vi a,Vi b,Vi j,Vi h]:=by
  rw[<-m];have:=(World.ownsRow_lit (base:=w.heap.size) (e:=85) (size:=6) (w.alloc (.cells #[Vs p.bR 8 p.cR,.bool M.z,.bool M.c,.bool M.hz,.bool M.hc,.slice p.aH M.nH p.cH,Vi M.pc,Vi M.st,.slice p.aO M.nO p.cO] 28)) #[Vi n,Vi d,Vi a,Vi b,Vi j,Vi h] 1 AY (by unfold maxLen;omega) rfl).alloc (.cells #[.slice none 0 0,.bool false,.bool false,.bool false,.bool false,.slice none 0 0,Vi 0,Vi 0,.slice none 0 0] 28);rw[World.size_alloc]at this;exact this
 have K:l.ownsRow w.heap.size 28 9 (.slice (some ⟨w.heap.size+1+1,0,none⟩) 1 1) 1 [.slice none 0 0,.bool false,.bool false,.bool false,.bool false,.slice none 0 0,Vi 0,Vi 0,.slice none 0 0]:=by
  rw[<-m];have:=World.ownsRow_lit (base:=w.heap.size) (e:=28) (size:=9) ((w.alloc (.cells #[Vs p.bR 8 p.cR,.bool M.z,.bool M.c,.bool M.hz,.bool M.hc,.slice p.aH M.nH p.cH,Vi M.pc,Vi M.st,.slice p.aO M.nO p.cO] 28)).alloc (.cells #[Vi n,Vi d,Vi a,Vi b,Vi j,Vi h] 85)) #[.slice none 0 0,.bool false,.bool false,.bool false,.bool false,.slice none 0 0,Vi 0,Vi 0,.slice none 0 0] 1 (by simp;omega) (by unfold maxLen;omega) rfl;rw[World.size_alloc,World.size_alloc]at this;exact this
 have m0:=BX J;have i0:=Gc X;obtain⟨s0,s1,s2,s3,s4,Q,s6,S,s8⟩:=BX K;have mf:∀i,l.frozen? ⟨w.heap.size,i,none⟩=false:=fun i=>J.frozenAt i
 have sf:∀i,l.frozen? ⟨w.heap.size+1+1,i,none⟩=false:=fun i=>K.frozenAt i
 have ao:=(s.cell (p:=⟨p.bR,a,none⟩) U).trans ra;have ap:=(s.cell (p:=⟨p.bR,b,none⟩) U).trans rb;have ar:=(s.cell (p:=⟨p.bR,d,none⟩) U).trans rd;have ad:=(s.frozen (p:=⟨p.bR,d,none⟩) U).trans fd;have au:p.bR<l.heap.size:=AB;have y0:w.heap.size<l.heap.size:=AB;have y1:w.heap.size+1<l.heap.size:=AB;have y2:w.heap.size+1+1<l.heap.size:=AB;have n0:p.bR≠w.heap.size:=AB;have n1:p.bR≠w.heap.size+1:=AB;have n2:p.bR≠w.heap.size+1+1:=AB;have x:=hxy s;have B:=hxy J;have C:=hxy K;have y:=hxy X;have D:=hxy z0;clear m s J X K z0 ra rb rd fd;go_wp2_with fail;go_cut [5]from 12(fun Q r=>Q=.int .u64 (IntKind.u64.wrap (M.R a+IntKind.u64.wrap j))/\r=l.drew)
 case first=>
  go_region;all_goals
   go_wp2_with fail;go_meet;exact⟨rfl,rfl⟩
 case rest=>
 obtain⟨rfl,rfl⟩:=hcut;have ae:(25:Int)<=n:=AB;go_upto_region 3 with fail;go_cut [5]from 12(fun Q r=>Q=.int .u64 (IntKind.u64.wrap (M.R a+M.R b))/\r=l.drew.drew)
 case first=>
  go_region;all_goals
   go_wp2_with fail;go_meet;exact⟨rfl,rfl⟩
 case rest=>
 obtain⟨rfl,rfl⟩:=hcut;have hA:=Di (M.R a+M.R b);have HE:Hid (∀k2,n=k2->Ew n d a b h j M=Ew k2 d a b h j M):=fun _ e=>by rw[e]
 generalize I:IntKind.u64.wrap (M.R a+M.R b)=A at hA⊢;have u:=hxy I;obtain⟨E,F⟩:=hA;clear I;rcases Z with rfl|rfl
 ·go_upto_region 7 with fail
  go_cut [7]from 12(fun S r=>S=.bool true/\r=l.drew.drew)
  case first=>
   go_wp2_with fail;go_meet;exact⟨rfl,rfl⟩
  case rest=>
  obtain⟨rfl,rfl⟩:=hcut;refine(by assumption:∀(Y:Act)(aa:World),_->_) _ _ ?_;exact L6 H0 HK _ 1 d a b h j O L N hn _ A (by rw[<-u.out];rfl) E F Aa Aa x D B y C Al.drew.drew rfl
 ·go_upto_region 7 with fail
  go_cut [7]from 12(fun S r=>S=.bool true/\r=l.drew.drew)
  case first=>
   go_wp2_with fail;go_meet;exact⟨rfl,rfl⟩
  case rest=>
  obtain⟨rfl,rfl⟩:=hcut;refine(by assumption:∀(Y:Act)(aa:World),_->_) _ _ ?_;exact L6 H0 HK _ 8 d a b h j O L N hn _ A (by rw[<-u.out];rfl) E F Aa Aa x D B y C Al.drew.drew rfl
end
end Go.Proofs.YtkckomianknjdaaGreat
