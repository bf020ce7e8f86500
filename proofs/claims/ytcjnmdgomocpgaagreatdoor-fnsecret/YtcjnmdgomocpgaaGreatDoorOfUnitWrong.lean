import Derived.Test.YtcjnmdgomocpgaaGreatDoorOfCoreCatch
set_option maxHeartbeats 8000000
set_option maxRecDepth 20000
namespace Go.Proofs.YtcjnmdgomocpgaaGreatDoor
open Go.RowKit
variable {i u:Nat}{L:Nat->SV}{w:World}
def D8(L:Nat->SV)(i te:Nat):List Nat:=
 if _h:i<te then i::D8 L (i+1+(L i).thn.toNat+(L i).els.toNat) te else[]
theorem GZ{te:Nat}(h:¬i<te):D8 L i te=[]:=by rw[D8,dif_neg h]
theorem Dm(h:i<u):D8 L i u=i::D8 L (i+1+(L i).thn.toNat+(L i).els.toNat) u:=by rw[D8,dif_pos h]
def xV(w:World)(S:Nat->Prop)(v:Value)(xs:List Value):Prop:=w.ownsRow 0 126 1 v xs.length xs/\∀b,v.ownBlock=some b->S b
def Ew(L:Nat->SV):Nat->World->(Nat->Prop)->Value->Nat->Nat->Prop
 |0,_,_,v,i,te=>te<=i/\v=.slice none 0 0
 |m+1,w,S,v,i,te=>∃xs:List Value,xV w S v xs/\xs.length=(D8 L i te).length/\∀(k:Nat)(x:Value)(p:Nat),xs[k]?=some x->(D8 L i te)[k]?=some p->
  ((L p).k=1/\x=.iface 155 (.agg #[Vi (p:Int),Vi (L p).op,Vi (L p).d,Vi (L p).a,Vi (L p).b,Vi (L p).imm,Vi (L p).h]))∨
  ((L p).k=2/\∃v1 v2,x=.iface 157 (.agg #[Vi (p:Int),Vi (L p).cond,v1,v2])/\Ew L m w S v1 (p+1) (p+1+(L p).thn.toNat)/\Ew L m w S v2 (p+1+(L p).thn.toNat) (p+1+(L p).thn.toNat+(L p).els.toNat))∨
  ((L p).k=3/\∃v1,x=.iface 160 (.agg #[Vi (p:Int),Vi (L p).cond,v1])/\Ew L m w S v1 (p+1) (p+1+(L p).thn.toNat))∨
  ((L p).k=4/\x=.iface 220 (.agg #[Vi (L p).proc]))
theorem Ew.kept{w':World}{S R:Nat->Prop}(j:∀b,S b->R b)(d:∀b,S b->b<w.heap.size->w'.heap[b]?=w.heap[b]?):∀(m:Nat){v:Value}{i s:Nat},Ew L m w S v i s->Ew L m w' R v i s
 |0,_,_,_,h=>h
 |m+1,v,i,s,h=>by
  obtain⟨I,⟨z,y⟩,C,D⟩:=h;refine⟨I,⟨⟨z.1,?_⟩,fun b h=>j b (y b h)⟩,C,fun k x p o c=>?_⟩
  ·rcases z.2 with h|⟨g,l,n,rfl,o,c,A⟩
   ·exact .inl h
   ·have B:g<w.heap.size:=(I8.1 c).1
    exact .inr ⟨g,l,n,rfl,o,(d g (y g rfl) B).trans c,A⟩
  ·rcases D k x p o c with q|⟨q,u,F,e,r,E⟩|⟨q,u,e,r⟩|q
   ·exact .inl q
   ·exact .inr (.inl ⟨q,u,F,e,r.kept j d m,E.kept j d m⟩)
   ·exact .inr (.inr (.inl ⟨q,u,e,r.kept j d m⟩))
   ·exact .inr (.inr (.inr q))
theorem Ew.below{j:World}{S:Nat->Prop}{m:Nat}{v:Value}(h:Ew L m w S v i u)(a:Below w.heap.size w j):Ew L m j S v i u:=
 h.kept (fun _ h=>h) (fun b _ c=>a.block b c)
theorem UB(k:Nat)(x:Array Value)(w:World):(method (k+1) 155 (.agg x) "loop.example/s01319/impl.flatSize").run Tryz.prog w=.ok (191,.agg x) w:=AV
theorem Ti(k:Nat)(x:Array Value)(w:World):(method (k+1) 157 (.agg x) "loop.example/s01319/impl.flatSize").run Tryz.prog w=.ok (192,.agg x) w:=AV
theorem YC(k:Nat)(x:Array Value)(w:World):(method (k+1) 160 (.agg x) "loop.example/s01319/impl.flatSize").run Tryz.prog w=.ok (193,.agg x) w:=AV
theorem Od(a b c d h j k:Value)(m:Value)(w:World):
 Ks 191 #[.agg #[a,b,c,d,h,j,k],m] w fun e l=>e=.returned (Vi 1)/\Below w.heap.size w l:=by
 go_enter Tryz.func191,Tryz.ntmps191;go_wp2;go_ret;exact⟨rfl,Ai⟩
theorem FX{c z e x:Int}(a:(DU L c z e i u x).1=0)(b:i<u):BZ (L i) z=true/\i+1+(L i).thn.toNat+(L i).els.toNat<=u/\(DU L c z e (i+1) (i+1+(L i).thn.toNat) (x+1)).1=0/\(DU L c z e (i+1+(L i).thn.toNat) (i+1+(L i).thn.toNat+(L i).els.toNat) (x+1)).1=0/\(DU L c z e (i+1+(L i).thn.toNat+(L i).els.toNat) u x).1=0:=by
 by_cases d:BZ (L i) z=false
 ·rw[Nb b d]at a;exact absurd a AX
 by_cases h:i+1+(L i).thn.toNat+(L i).els.toNat<=u
 rotate_left
 ·rw[IC b d h]at a;exact absurd a AX
 by_cases m:((L i).k=2∨(L i).k=3)/\e<=x
 ·rw[Jm b d h m]at a;exact absurd a AX
 by_cases n:(L i).k=4/\(L i).proc<=c
 ·rw[Na b d h m n]at a;exact absurd a AX
 rw[LM b d h m n]at a;by_cases j:(DU L c z e (i+1) (i+1+(L i).thn.toNat) (x+1)).1≠0
 ·rw[if_pos j]at a;exact absurd a j
 rw[if_neg j]at a;by_cases l:(DU L c z e (i+1+(L i).thn.toNat) (i+1+(L i).thn.toNat+(L i).els.toNat) (x+1)).1≠0
 ·rw[if_pos l]at a;exact absurd a l
 rw[if_neg l]at a;exact⟨by simpa using d,h,by simpa using j,by simpa using l,a⟩
theorem OP(L:Nat->SV):∀(m i a:Nat),a-i<=m->(D8 L i a).length<=a-i:=by
 intro m;induction m using Nat.strongRecOn with
 |ind m ih=>
 intro i a b;by_cases h:i<a
 ·rw[Dm h]
  have:=ih (a-(i+1+(L i).thn.toNat+(L i).els.toNat)) AB (i+1+(L i).thn.toNat+(L i).els.toNat) a BQ;simp only[List.length_cons];omega
 ·rw[GZ h];simp
theorem PD{s:SV}{z:Int}(h:BZ s z=true):((s.k=1∨s.k=4)->s.thn=0/\s.els=0)/\(s.k=3->s.els=0):=by
 unfold BZ at h;split at h
 ·simp at h;omega
 ·split at h
  ·simp at h;omega
  ·split at h
   ·simp at h;omega
   ·split at h
    ·simp at h;omega
    ·cases h
theorem Mt(b:Option Addr)(a:Nat)(j:Value)(w:World):
 Ks 54 #[.slice b 0 a,j] w fun e h=>e=.returned (Vi 0)/\h=w:=by
 go_enter Tryz.func54,Tryz.ntmps54;go_wp2;go_loopw [5,10](fun d c wr=>c=Vi 0/\d=Vi 0/\wr=w)(fun _ _ _=>0)
 case atStart=>exact⟨rfl,rfl,rfl⟩
 case round=>
  obtain⟨rfl,rfl,rfl⟩:=hrel;go_wp2;go_ret;exact⟨rfl,rfl⟩
theorem Nr(r s o p y:Value)(j m:Int)(w:World)(L:0<=j)(M:j<=1099511627776)(N:0<=m)(O:m<=1099511627776)
 (A:∀a,Below w.heap.size w a->Ks 54 #[o,y] a fun e v=>e=.returned (Vi j)/\Below a.heap.size a v)
 (B:∀a,Below w.heap.size w a->Ks 54 #[p,y] a fun e v=>e=.returned (Vi m)/\Below a.heap.size a v):
 Ks 192 #[.agg #[r,s,o,p],y] w fun e a=>e=.returned (Vi (2+j+m))/\Below w.heap.size w a:=by
 have F:Hid _:=A;have I:Hid _:=B;clear A B;go_enter Tryz.func192,Tryz.ntmps192;go_upto_region 1 with fail;obtain⟨u,D,d,C⟩:∃x,w.alloc (.cells #[r,s,o,p] 157)=x/\Bw w x/\Cl x w.heap.size [r,s,o,p]:=⟨_,rfl,Ai,Cl.new⟩
 rw[D];have l:=hxy d;have z:=hxy C;clear D d C;have J:∀a,Bw u a->a.cell? ⟨w.heap.size,2,none⟩=some o:=fun a h=>(z.below h).2 2 AX
 have K:∀a,Bw u a->a.cell? ⟨w.heap.size,3,none⟩=some p:=fun a h=>(z.below h).2 3 AX
 refine wp_region_held_drew (S:=fun a=>Bw u a) AV BJ.drew (fun hd0=>?_);generalize u.drew=U at hd0⊢;refine EX [0,1,2,5,6,7] ?_;refine AO 3 rfl (fun q n=>?_);go_simp;refine(F _ (l.trans (hd0.mono l.size))).mono ?_;rintro e X⟨rfl,d⟩;have b:=hd0.trans (d.mono hd0.size);clear d;go_wp2_with fail;refine n.out _ _ b (fun hHeld=>?_);clear n q;refine Cn ?_;have Q:IntKind.i64.wrap (2+j)=2+j:=by rw[IntKind.wrap_i64];omega
 have R:IntKind.i64.wrap (2+j+m)=2+j+m:=by rw[IntKind.wrap_i64];omega
 refine AU 4 ?_;refine AO 8 rfl (fun q n=>?_);go_simp;refine(I _ (l.trans (b.mono l.size))).mono ?_;rintro e Y⟨rfl,d⟩;have k:=b.trans (d.mono b.size);clear d;go_wp2_with fail;refine n.out _ _ k (fun c=>?_);clear n q;refine Cn ?_;refine EX [9,10] ?_;refine wpAnyH_done AV ?_ _;have E:=hxy (l.trans (k.mono l.size));clear J K hd0 b k hHeld c;go_wp2;go_ret;exact⟨rfl,E⟩
theorem Ra(h j d m:Value)(c:Int)(w:World)(p:0<=c)(q:c<=1099511627776)
 (k:∀a,Below w.heap.size w a->Ks 54 #[d,m] a fun e v=>e=.returned (Vi c)/\Below a.heap.size a v):
 Ks 193 #[.agg #[h,j,d],m] w fun e a=>e=.returned (Vi (2+c))/\Below w.heap.size w a:=by
 have o:Hid _:=k;clear k;go_enter Tryz.func193,Tryz.ntmps193;go_wp2_with fail;have b:Bw w (w.alloc (.cells #[h,j,d] 160)):=Ai;refine(o _ b).mono ?_;rintro e r⟨rfl,l⟩;have n:=hxy (b.trans (l.mono b.size));clear l b;go_wp2;go_ret;exact⟨rfl,n⟩
def EF(s:SV)(own procs dmax room depth:Int):Int:=
 if BZ s procs=false then 2 else if room<s.thn∨room-s.thn<s.els then 3 else if(s.k=2∨s.k=3)/\dmax<depth then 4 else if s.k=4/\s.proc<=own then 5 else 0
theorem Ji{B:Nat}{j:World}(h:Below B w j)(n:Nat):Below B w (j.drewN n):=h.trans ⟨rfl,rfl,rfl,BQ,fun _ _=>rfl⟩
theorem YI(t:Nat)(Qb:Value)(o l n Y aa:Int)(s:SV)(c m:Int)(w:World)(hT:Cl w t [Qb,Vi o,Vi l,Vi n,Vi Y,Vi aa])(r0:0<=c)(r1:c<=1048576):
 Ks 90 #[Vq t,.agg #[Vi s.k,Vi s.op,Vi s.d,Vi s.a,Vi s.b,Vi s.imm,Vi s.h,Vi s.cond,Vi s.thn,Vi s.els,Vi s.proc],Vi c,Vi m] w fun e j=>e=.returned (Vi (EF s o l n c m))/\Below w.heap.size w j:=by
 obtain⟨ae,z⟩:=Au (EF s o l n c m);rw[z];have D:=hxy z;have HT:=hxy hT;have lt:=hT.1;clear z hT;go_enter Tryz.func90,Tryz.ntmps90;go_upto_region 1 with fail;obtain⟨u,hu,K,hc⟩:∃x,w.alloc (.cells #[Vi s.k,Vi s.op,Vi s.d,Vi s.a,Vi s.b,Vi s.imm,Vi s.h,Vi s.cond,Vi s.thn,Vi s.els,Vi s.proc] 117)=x/\Bw w x/\Cl x w.heap.size [Vi s.k,Vi s.op,Vi s.d,Vi s.a,Vi s.b,Vi s.imm,Vi s.h,Vi s.cond,Vi s.thn,Vi s.els,Vi s.proc]:=⟨_,rfl,Ai,Cl.new⟩
 rw[hu];have O:=hxy K;have p:=hxy hc;have R:=hxy (HT.below K);clear hu K hc HT;have lu:=p.1;have r0:∀j,Bw u j->j.cell? ⟨w.heap.size,0,none⟩=some (Vi s.k):=fun j h=>(p.below h).2 0 AX
 have r1:∀j,Bw u j->j.cell? ⟨w.heap.size,1,none⟩=some (Vi s.op):=fun j h=>(p.below h).2 1 AX
 have r2:∀j,Bw u j->j.cell? ⟨w.heap.size,2,none⟩=some (Vi s.d):=fun j h=>(p.below h).2 2 AX
 have r3:∀j,Bw u j->j.cell? ⟨w.heap.size,3,none⟩=some (Vi s.a):=fun j h=>(p.below h).2 3 AX
 have r4:∀j,Bw u j->j.cell? ⟨w.heap.size,4,none⟩=some (Vi s.b):=fun j h=>(p.below h).2 4 AX
 have r5:∀j,Bw u j->j.cell? ⟨w.heap.size,5,none⟩=some (Vi s.imm):=fun j h=>(p.below h).2 5 AX
 have r6:∀j,Bw u j->j.cell? ⟨w.heap.size,6,none⟩=some (Vi s.h):=fun j h=>(p.below h).2 6 AX
 have r7:∀j,Bw u j->j.cell? ⟨w.heap.size,7,none⟩=some (Vi s.cond):=fun j h=>(p.below h).2 7 AX
 have r8:∀j,Bw u j->j.cell? ⟨w.heap.size,8,none⟩=some (Vi s.thn):=fun j h=>(p.below h).2 8 AX
 have r9:∀j,Bw u j->j.cell? ⟨w.heap.size,9,none⟩=some (Vi s.els):=fun j h=>(p.below h).2 9 AX
 have ab:∀j,Bw u j->j.cell? ⟨w.heap.size,10,none⟩=some (Vi s.proc):=fun j h=>(p.below h).2 10 AX
 have q2:Cb u t 2 (Vi l):=fun j h=>(R.below h).2 2 AX
 refine wp_region_held_drew (S:=fun j=>Bw u j) AV BJ.drew (fun hd0=>?_);generalize u.drew=v0 at hd0⊢;refine EX [0,1,2,3,4] ?_;refine AO 5 rfl (fun KK hK=>?_);go_simp;refine(QE s l _).mono ?_;rintro e u1⟨rfl,K⟩;have y:=hd0.trans (K.mono hd0.size);clear K;obtain⟨ok,J⟩:=Au (BZ s l);rw[J];have F:=hxy J;clear J;go_wp2_with fail;refine hK.out _ _ y (fun hHeld=>?_);clear hK KK;refine Cn ?_;refine EX [6,7] ?_;refine wpAnyH_done AV ?_ _;clear r0 r1 r2 r3 r4 r5 r6 r7 r8 r9 ab q2;have B:=hxy (O.trans (y.mono O.size));have C1:=hxy (p.below y);have U:=hxy (R.below y);clear hd0 y hHeld O p R;have c0:=Mx C1;have zc:=C1.1;have zt:=U.1;have t1:u1.cell? (Va t 1)=some (Vi o):=U.2 1 AX;have t3:u1.cell? (Va t 3)=some (Vi n):=U.2 3 AX;cases ok with
 |false=>
  go_wp2;go_ret;exact⟨Ae (by rw[<-D.out,EF,if_pos F.out]),B⟩
 |true=>
 obtain⟨tp,ep⟩:=Mk F;have E:Hid (¬BZ s l=false):=(by rw[F.out];decide:¬BZ s l=false)
 by_cases Z:c<s.thn
 ·have e1:decide (c<s.thn)=true:=by simp[Z]
  go_wp2;go_ret;exact⟨Ae (by rw[<-D.out,EF,if_neg E.out,if_pos (Or.inl Z)]),B⟩
 have e1:decide (c<s.thn)=false:=by simp;omega
 by_cases r:c-s.thn<s.els
 ·have e2:decide (c-s.thn<s.els)=true:=by simp[r]
  go_wp2;go_ret;exact⟨Ae (by rw[<-D.out,EF,if_neg E.out,if_pos (Or.inr r)]),B⟩
 have e2:decide (c-s.thn<s.els)=false:=by simp;omega
 have M:Hid (¬(c<s.thn∨c-s.thn<s.els)):=(by omega:¬(c<s.thn∨c-s.thn<s.els))
 have ad:s.thn<=c:=AB;clear Z r;by_cases I:(s.k=2∨s.k=3)/\n<m
 ·have C:=hxy I
  have e4:decide (n<m)=true:=by simp[I.2]
  by_cases r:s.k=2
  ·have X:(s.k==2)=true:=by simp[r]
   clear I r;go_wp2;go_ret;exact⟨Ae (by rw[<-D.out,EF,if_neg E.out,if_neg M.out,if_pos C.out]),B⟩
  ·have X:(s.k==2)=false:=by simp[r]
   have N:(s.k==3)=true:=by rcases I.1 with q|q<;>simp_all
   clear I r;go_wp2;go_ret;exact⟨Ae (by rw[<-D.out,EF,if_neg E.out,if_neg M.out,if_pos C.out]),B⟩
 have C:=hxy I;clear I;go_upto_region 5 with fail;go_cut [31](fun ac wx=>ac=.bool false/\wx=u1)
 case first=>
  by_cases r:s.k=2
  ·have X:(s.k==2)=true:=by simp[r]
   have e4:decide (n<m)=false:=by have:=C.out;simp;omega
   clear r;go_wp2_with fail;go_meet;exact⟨rfl,rfl⟩
  ·have X:(s.k==2)=false:=by simp[r]
   by_cases A:s.k=3
   ·have N:(s.k==3)=true:=by simp[A]
    have e4:decide (n<m)=false:=by have:=C.out;simp;omega
    clear r A;go_wp2_with fail;go_meet;exact⟨rfl,rfl⟩
   ·have N:(s.k==3)=false:=by simp[A]
    clear r A;go_wp2_with fail;go_meet;exact⟨rfl,rfl⟩
 case rest=>
  obtain⟨rfl,hw⟩:=hcut;rw[hw];clear hw e1 e2;go_upto_region 7 with fail;by_cases L:s.k=4
  ·have a4:(s.k==4)=true:=by simp[L]
   have Q:=hxy L;clear L;by_cases A:s.proc<=o
   ·have N:decide (s.proc<=o)=true:=by simp[A]
    go_quiet(fail);go_wp2;go_ret;exact⟨Ae (by rw[<-D.out,EF,if_neg E.out,if_neg M.out,if_neg C.out,if_pos ⟨Q.out,A⟩]),Ji B _⟩
   ·have N:decide (s.proc<=o)=false:=by simp;omega
    have H5:=hxy A;clear A;go_quiet(fail);go_wp2;go_ret;exact⟨Ae (by rw[<-D.out,EF,if_neg E.out,if_neg M.out,if_neg C.out,if_neg (fun x=>by have:=H5.out;have:=x.2;omega)]),Ji B _⟩
  ·have a4:(s.k==4)=false:=by simp[L]
   have Q:=hxy L;clear L;go_quiet(fail);go_wp2;go_ret;exact⟨Ae (by rw[<-D.out,EF,if_neg E.out,if_neg M.out,if_neg C.out,if_neg (fun x=>Q.out x.1)]),Ji B _⟩
end Go.Proofs.YtcjnmdgomocpgaaGreatDoor
