import Derived.Test.YtpbceodheeepoaaGreatEqMach
import Derived.Test.YtpbceodheeepoaaGreatOfSpecI64
set_option maxHeartbeats 800000
namespace Go.Proofs.YtpbceodheeepoaaGreat
open Go.RowKit
structure Fr(S:Nat->Prop)(w w':World):Prop where
 os:w'.os=w.os
 tape:w'.tape=w.tape
 output:w'.output=w.output
 size:w.heap.size<=w'.heap.size
 block:∀k,k<w.heap.size->¬S k->w'.heap[k]?=w.heap[k]?
theorem Fr.refl(S:Nat->Prop)(w:World):Fr S w w:=⟨rfl,rfl,rfl,Nat.le_refl _,fun _ _ _=>rfl⟩
theorem Fr.trans{S:Nat->Prop}{a b c:World}(h:Fr S a b)(k:Fr S b c):Fr S a c:=
 ⟨k.os.trans h.os,k.tape.trans h.tape,k.output.trans h.output,Nat.le_trans h.size k.size,fun i hi hn=>(k.block i (Nat.lt_of_lt_of_le hi h.size) hn).trans (h.block i hi hn)⟩
theorem Fr.mono{S T:Nat->Prop}{a b:World}(h:Fr S a b)(hs:∀k,S k->T k):Fr T a b:=⟨h.os,h.tape,h.output,h.size,fun i hi hn=>h.block i hi fun q=>hn (hs i q)⟩
theorem Fr.set{S:Nat->Prop}{a b:World}(h:Fr S a b){k:Nat}(hk:S k∨a.heap.size<=k)(o:Nat)(v:Value):Fr S a (b.setCell ⟨k,o,none⟩ v):=
 ⟨h.os,h.tape,h.output,by simpa using h.size,fun i hi hn=>by
   have hne:i≠k:=fun q=>by
    rcases hk with hk|hk
    ·exact hn (by rw[q];exact hk)
    ·omega
   rw[heap_setCell_other _ _ _ _ hne];exact h.block i hi hn⟩
theorem Fr.of_below{S:Nat->Prop}{w w':World}(h:Below w.heap.size w w'):Fr S w w':=⟨h.os,h.tape,h.output,h.size,fun k hk _=>h.block k hk⟩
theorem Fr.cell{S:Nat->Prop}{w w':World}(h:Fr S w w'){b o:Nat}(hb:b<w.heap.size)(hn:¬S b):w'.cell? ⟨b,o,none⟩=w.cell? ⟨b,o,none⟩:=World.cell?_of_block (a:=⟨b,o,none⟩) (h.block b hb hn)
theorem Fr.frozen{S:Nat->Prop}{w w':World}(h:Fr S w w'){b o:Nat}(hb:b<w.heap.size)(hn:¬S b):w'.frozen? ⟨b,o,none⟩=w.frozen? ⟨b,o,none⟩:=World.frozen?_of_block (a:=⟨b,o,none⟩) (h.block b hb hn)
theorem Fr.arr{S:Nat->Prop}{w w':World}(h:Fr S w w'){b n:Nat}{f:Nat->Value}(ha:Arr w b n f)(hn:¬S b):Arr w' b n f:=
 ⟨Nat.lt_of_lt_of_le ha.1 h.size,fun i=>(h.frozen ha.1 hn).trans (ha.2.1 i),fun i hi=>(h.cell ha.1 hn).trans (ha.2.2 i hi)⟩
theorem Arr.put{w:World}{b n:Nat}{f:Nat->Value}(h:Arr w b n f){j:Nat}(hj:j<n)(v:Value):Arr (w.setCell ⟨b,j,none⟩ v) b n (fun i=>if i=j then v else f i):=by
 have:=h.setCells j [v] (by simp;omega);refine Arr.congr (f:=_) (by simpa[World.setCells]using this) fun i hi=>?_
 by_cases e:i=j
 ·subst e;simp
 ·have:¬(j<=i/\i<j+1):=by omega
  simp[e,this]
def WrR(w:World)(ao:Option Addr)(n:Nat)(f:Nat->Value):Prop:=n=0∨∃b,ao=some ⟨b,0,none⟩/\Arr w b n f
def Blk(ao:Option Addr)(n q:Nat):Prop:=n≠0/\ao=some ⟨q,0,none⟩
theorem WrR.fr{S:Nat->Prop}{w w':World}{ao:Option Addr}{n:Nat}{f:Nat->Value}(h:WrR w ao n f)(hf:Fr S w w')(hn:∀q,Blk ao n q->¬S q):WrR w' ao n f:=by
 by_cases h0:n=0
 ·exact .inl h0
 ·rcases h with h|⟨b,rfl,h⟩
  ·exact .inl h
  ·exact .inr ⟨b,rfl,hf.arr h (hn b ⟨h0,rfl⟩)⟩
theorem WrR.inRow{w:World}{ao:Option Addr}{n:Nat}{f:Nat->Value}(h:WrR w ao n f):InRow w ao n f:=by
 rcases h with h|⟨b,rfl,h⟩
 ·exact .inl h
 ·exact .inr ⟨b,0,rfl,h.at⟩
theorem WrR.below{w w':World}{ao:Option Addr}{n:Nat}{f:Nat->Value}(h:WrR w ao n f)(hb:Below w.heap.size w w'):WrR w' ao n f:=by
 rcases h with h|⟨b,rfl,h⟩
 ·exact .inl h
 ·exact .inr ⟨b,rfl,h.below hb h.lt⟩
theorem wr_own{w:World}{base e size n cap m:Nat}{ao:Option Addr}{f:Nat->Value}(h:w.ownsRow base e size (.slice ao n cap) n (first m f))(hm:m=n*size):WrR w ao m f:=by
 by_cases h0:n=0
 ·left;rw[hm,h0,Nat.zero_mul]
 ·obtain⟨g,c,hv⟩:=row_some h (by omega)
  simp only[Value.slice.injEq]at hv;obtain⟨rfl,_,rfl⟩:=hv;right;refine⟨g,rfl,(h.lt g rfl).2,fun i=>h.frozenAt i,fun i hi=>?_⟩;rw[h.cellAt i (by omega),first_at hi]
theorem markU_at(b n cap:Nat)(f:Nat->Value)(k:Int)(w:World)(hn:n<=1048576)(k0:0<=k)(k1:k<=1125899906842624)(h:Arr w b n f):
 Calls Tryz.prog 51 #[.slice (some ⟨b,0,none⟩) n cap,.int .i64 k] w fun e w'=>e=.returned (.int .i64 (k+n))/\Fr (fun q=>q=b) w w'/\Arr w' b n (numF .u64 fun i=>k+i):=by
 have HA:Hid (Arr w b n f):=h;clear h;go_enter Tryz.func51,Tryz.ntmps51;go_wp2;go_loopw [1,5](fun kv i wr=>∃q:Nat,q<=n/\i=.int .i64 q/\kv=.int .i64 (k+q)/\Fr (fun q=>q=b) w wr/\Arr wr b n (upTo (numF .u64 fun i=>k+i) f q))(fun _ i _=>n-(intOf i).toNat)
 case atStart=>exact⟨0,Nat.zero_le _,rfl,by simp,Fr.refl _ _,HA.out.congr fun i _=>(upTo_zero _ _ _).symm⟩
 case round=>
  obtain⟨q,hq,rfl,rfl,hf,ha⟩:=hrel;by_cases hlt:q<n
  ·have hlt':(q:Int)<n:=by omega
   have g0:=ha.cell hlt;have gf:=ha.free q;have hb:=ha.lt;have hw:IntKind.u64.wrap (k+q)=k+q:=wrap_id (by omega) (by omega);have hi:IntKind.i64.wrap (k+q+1)=k+q+1:=i64_id (by omega) (by omega);have HF:Hid (Fr (fun q=>q=b) w wr):=hf;have HR:Hid (Arr wr b n (upTo (numF .u64 fun i=>k+i) f q)):=ha;clear hf ha;go_wp2;go_roundw
   case rel=>
    refine⟨q+1,by omega,by go_num,by simp;omega,HF.out.set (.inl rfl) _ _,?_⟩;have:=HR.out.fill (vs:=[.int .u64 (k+q)]) (by simp;omega) (fun j hj=>by
     have:j=0:=by simpa using hj
     subst this;simp[numF])
    simpa[World.setCells]using this
   case measure=>simp[intOf];omega
  ·obtain rfl:q=n:=by omega
   have HF:Hid (Fr (fun q=>q=b) w wr):=hf;have HR:Hid (Arr wr b q (upTo (numF .u64 fun i=>k+i) f q)):=ha;clear hf ha;go_wp2;go_ret;exact⟨rfl,HF.out,HR.out.filled⟩

theorem markU_nil(ao:Option Addr)(cap:Nat)(k:Int)(w:World):
 Calls Tryz.prog 51 #[.slice ao 0 cap,.int .i64 k] w fun e w'=>e=.returned (.int .i64 k)/\w'=w:=by
 go_enter Tryz.func51,Tryz.ntmps51;go_wp2;go_loopw [1,5](fun kv i wr=>i=.int .i64 0/\kv=.int .i64 k/\wr=w)(fun _ _ _=>0)
 case atStart=>exact⟨rfl,rfl,rfl⟩
 case round=>
  obtain⟨rfl,rfl,rfl⟩:=hrel;go_wp2;go_ret;exact⟨rfl,rfl⟩
theorem markU_in(ao:Option Addr)(n cap:Nat)(f:Nat->Value)(k:Int)(w:World)(hn:n<=1048576)(k0:0<=k)(k1:k<=1125899906842624)(h:WrR w ao (n) f):
 Calls Tryz.prog 51 #[.slice ao n cap,.int .i64 k] w fun e w'=>e=.returned (.int .i64 (k+n))/\Fr (Blk ao (n)) w w'/\WrR w' ao (n) (numF .u64 fun i=>k+i):=by
 by_cases h0:n=0
 ·subst h0
  refine(markU_nil ao cap k w).mono ?_;rintro e w'⟨rfl,rfl⟩;exact⟨by simp,Fr.refl _ _,.inl (by omega)⟩
 ·rcases h with h|⟨b,rfl,h⟩
  ·omega
  ·refine(markU_at b n cap f k w hn k0 k1 h).mono ?_
   rintro e w'⟨rfl,h1,h2⟩;exact⟨rfl,h1.mono (fun q hq=>⟨by omega,by rw[hq]⟩),.inr ⟨b,rfl,h2⟩⟩
theorem markB_at(b n cap:Nat)(f:Nat->Value)(k:Int)(w:World)(hn:n<=1048576)(k0:0<=k)(k1:k<=1125899906842624)(h:Arr w b n f):
 Calls Tryz.prog 82 #[.slice (some ⟨b,0,none⟩) n cap,.int .i64 k] w fun e w'=>e=.returned (.int .i64 (k+n))/\Fr (fun q=>q=b) w w'/\Arr w' b n (numF .u8 fun i=>(k+i)%256):=by
 have HA:Hid (Arr w b n f):=h;clear h;go_enter Tryz.func82,Tryz.ntmps82;go_wp2;go_loopw [1,5](fun kv i wr=>∃q:Nat,q<=n/\i=.int .i64 q/\kv=.int .i64 (k+q)/\Fr (fun q=>q=b) w wr/\Arr wr b n (upTo (numF .u8 fun i=>(k+i)%256) f q))(fun _ i _=>n-(intOf i).toNat)
 case atStart=>exact⟨0,Nat.zero_le _,rfl,by simp,Fr.refl _ _,HA.out.congr fun i _=>(upTo_zero _ _ _).symm⟩
 case round=>
  obtain⟨q,hq,rfl,rfl,hf,ha⟩:=hrel;by_cases hlt:q<n
  ·have hlt':(q:Int)<n:=by omega
   have g0:=ha.cell hlt;have gf:=ha.free q;have hb:=ha.lt;have hi:IntKind.i64.wrap (k+q+1)=k+q+1:=i64_id (by omega) (by omega);have HF:Hid (Fr (fun q=>q=b) w wr):=hf;have HR:Hid (Arr wr b n (upTo (numF .u8 fun i=>(k+i)%256) f q)):=ha;clear hf ha;go_wp2;go_roundw
   case rel=>
    refine⟨q+1,by omega,by go_num,by simp;omega,HF.out.set (.inl rfl) _ _,?_⟩;have:=HR.out.fill (vs:=[.int .u8 ((k+q)%256)]) (by simp;omega) (fun j hj=>by
     have:j=0:=by simpa using hj
     subst this;simp[numF])
    simpa[World.setCells]using this
   case measure=>simp[intOf];omega
  ·obtain rfl:q=n:=by omega
   have HF:Hid (Fr (fun q=>q=b) w wr):=hf;have HR:Hid (Arr wr b q (upTo (numF .u8 fun i=>(k+i)%256) f q)):=ha;clear hf ha;go_wp2;go_ret;exact⟨rfl,HF.out,HR.out.filled⟩
theorem markB_nil(ao:Option Addr)(cap:Nat)(k:Int)(w:World):
 Calls Tryz.prog 82 #[.slice ao 0 cap,.int .i64 k] w fun e w'=>e=.returned (.int .i64 k)/\w'=w:=by
 go_enter Tryz.func82,Tryz.ntmps82;go_wp2;go_loopw [1,5](fun kv i wr=>i=.int .i64 0/\kv=.int .i64 k/\wr=w)(fun _ _ _=>0)
 case atStart=>exact⟨rfl,rfl,rfl⟩
 case round=>
  obtain⟨rfl,rfl,rfl⟩:=hrel;go_wp2;go_ret;exact⟨rfl,rfl⟩
theorem markB_in(ao:Option Addr)(n cap:Nat)(f:Nat->Value)(k:Int)(w:World)(hn:n<=1048576)(k0:0<=k)(k1:k<=1125899906842624)(h:WrR w ao (n) f):
 Calls Tryz.prog 82 #[.slice ao n cap,.int .i64 k] w fun e w'=>e=.returned (.int .i64 (k+n))/\Fr (Blk ao (n)) w w'/\WrR w' ao (n) (numF .u8 fun i=>(k+i)%256):=by
 by_cases h0:n=0
 ·subst h0
  refine(markB_nil ao cap k w).mono ?_;rintro e w'⟨rfl,rfl⟩;exact⟨by simp,Fr.refl _ _,.inl (by omega)⟩
 ·rcases h with h|⟨b,rfl,h⟩
  ·omega
  ·refine(markB_at b n cap f k w hn k0 k1 h).mono ?_
   rintro e w'⟨rfl,h1,h2⟩;exact⟨rfl,h1.mono (fun q hq=>⟨by omega,by rw[hq]⟩),.inr ⟨b,rfl,h2⟩⟩
theorem markO_at(b n cap:Nat)(f:Nat->Value)(k:Int)(w:World)(hn:n<=1048576)(k0:0<=k)(k1:k<=2251799813685248)(h:Arr w b (n*2) f):
 Calls Tryz.prog 53 #[.slice (some ⟨b,0,none⟩) n cap,.int .i64 k] w fun e w'=>e=.returned (.int .i64 (k+2*n))/\Fr (fun q=>q=b) w w'/\Arr w' b (n*2) (obsF (fun i=>k+2*i) fun i=>k+2*i+1):=by
 have HA:Hid (Arr w b (n*2) f):=h;clear h;go_enter Tryz.func53,Tryz.ntmps53;go_wp2;go_loopw [1,5](fun kv i wr=>∃q:Nat,q<=n/\i=.int .i64 q/\kv=.int .i64 (k+2*q)/\Fr (fun q=>q=b) w wr/\Arr wr b (n*2) (upTo (obsF (fun i=>k+2*i) fun i=>k+2*i+1) f (q*2)))(fun _ i _=>n-(intOf i).toNat)
 case atStart=>exact⟨0,Nat.zero_le _,rfl,by simp,Fr.refl _ _,HA.out.congr fun i _=>by rw[Nat.zero_mul];exact(upTo_zero _ _ _).symm⟩
 case round=>
  obtain⟨q,hq,rfl,rfl,hf,ha⟩:=hrel;by_cases hlt:q<n
  ·have hlt':(q:Int)<n:=by omega
   have g0:=ha.cell (i:=q*2) (by omega);have g1:=ha.cell (i:=q*2+1) (by omega);have gf:=ha.free;have hb:=ha.lt;have hw:IntKind.u64.wrap (k+2*q+1)=k+2*q+1:=wrap_id (by omega) (by omega);have hi0:IntKind.i64.wrap (k+2*q)=k+2*q:=i64_id (by omega) (by omega);have hi:IntKind.i64.wrap (k+2*q+1)=k+2*q+1:=i64_id (by omega) (by omega);have hi2:IntKind.i64.wrap (k+2*q+1+1)=k+2*q+1+1:=i64_id (by omega) (by omega);have HF:Hid (Fr (fun q=>q=b) w wr):=hf;have HR:Hid (Arr wr b (n*2) (upTo (obsF (fun i=>k+2*i) fun i=>k+2*i+1) f (q*2))):=ha;clear hf ha;go_wp2;go_roundw
   case rel=>
    refine⟨q+1,by omega,by go_num,by simp;omega,(HF.out.set (.inl rfl) _ _).set (.inl rfl) _ _,?_⟩;have:=HR.out.fill (vs:=[.int .i64 (k+2*q),.int .u64 (k+2*q+1)]) (by simp;omega) (fun j hj=>by
     have hj2:j=0∨j=1:=by simp at hj;omega
     rcases hj2 with rfl|rfl
     ·rw[obsF_0];simp
     ·rw[obsF_1];simp)
    rw[show(q+1)*2=q*2+2 by omega];simpa[World.setCells]using this
   case measure=>simp[intOf];omega
  ·obtain rfl:q=n:=by omega
   have HF:Hid (Fr (fun q=>q=b) w wr):=hf;have HR:Hid (Arr wr b (q*2) (upTo (obsF (fun i=>k+2*i) fun i=>k+2*i+1) f (q*2))):=ha;clear hf ha;go_wp2;go_ret;exact⟨rfl,HF.out,HR.out.filled⟩
theorem markO_nil(ao:Option Addr)(cap:Nat)(k:Int)(w:World):
 Calls Tryz.prog 53 #[.slice ao 0 cap,.int .i64 k] w fun e w'=>e=.returned (.int .i64 k)/\w'=w:=by
 go_enter Tryz.func53,Tryz.ntmps53;go_wp2;go_loopw [1,5](fun kv i wr=>i=.int .i64 0/\kv=.int .i64 k/\wr=w)(fun _ _ _=>0)
 case atStart=>exact⟨rfl,rfl,rfl⟩
 case round=>
  obtain⟨rfl,rfl,rfl⟩:=hrel;go_wp2;go_ret;exact⟨rfl,rfl⟩
theorem markO_in(ao:Option Addr)(n cap:Nat)(f:Nat->Value)(k:Int)(w:World)(hn:n<=1048576)(k0:0<=k)(k1:k<=2251799813685248)(h:WrR w ao (n*2) f):
 Calls Tryz.prog 53 #[.slice ao n cap,.int .i64 k] w fun e w'=>e=.returned (.int .i64 (k+2*n))/\Fr (Blk ao (n*2)) w w'/\WrR w' ao (n*2) (obsF (fun i=>k+2*i) fun i=>k+2*i+1):=by
 by_cases h0:n=0
 ·subst h0
  refine(markO_nil ao cap k w).mono ?_;rintro e w'⟨rfl,rfl⟩;exact⟨by simp,Fr.refl _ _,.inl (by omega)⟩
 ·rcases h with h|⟨b,rfl,h⟩
  ·omega
  ·refine(markO_at b n cap f k w hn k0 k1 h).mono ?_
   rintro e w'⟨rfl,h1,h2⟩;exact⟨rfl,h1.mono (fun q hq=>⟨by omega,by rw[hq]⟩),.inr ⟨b,rfl,h2⟩⟩
theorem heldU_at(b off n cap:Nat)(k:Int)(w:World)(hn:n<=1048576)(k0:0<=k)(k1:k<=1125899906842624)(h:At w b off n (numF .u64 fun i=>k+i)):
 Calls Tryz.prog 54 #[.slice (some ⟨b,off,none⟩) n cap,.int .i64 k] w fun e w'=>e=.returned (.int .i64 (k+n))/\w'=w:=by
 have HA:Hid (At w b off n (numF .u64 fun i=>k+i)):=h;have hb:=h.lt;clear h;go_enter Tryz.func54,Tryz.ntmps54;go_wp2;go_loopw [1,5](fun kv i wr=>∃q:Nat,q<=n/\i=.int .i64 q/\kv=.int .i64 (k+q)/\wr=w)(fun _ i _=>n-(intOf i).toNat)
 case atStart=>exact⟨0,Nat.zero_le _,rfl,by simp,rfl⟩
 case round=>
  obtain⟨q,hq,rfl,rfl,rfl⟩:=hrel;by_cases hlt:q<n
  ·have hlt':(q:Int)<n:=by omega
   have g0:wr.cell? ⟨b,off+q,none⟩=some (.int .u64 (k+q)):=HA.out.cell hlt;have hw:IntKind.u64.wrap (k+q)=k+q:=wrap_id (by omega) (by omega);have hi:IntKind.i64.wrap (k+q+1)=k+q+1:=i64_id (by omega) (by omega);go_wp2;go_roundw
   case rel=>exact⟨q+1,by omega,by go_num,by simp;omega,by first|rfl|trivial⟩
   case measure=>simp[intOf];omega
  ·obtain rfl:q=n:=by omega
   go_wp2;go_ret;exact⟨rfl,rfl⟩
theorem heldU_nil(ao:Option Addr)(cap:Nat)(k:Int)(w:World):
 Calls Tryz.prog 54 #[.slice ao 0 cap,.int .i64 k] w fun e w'=>e=.returned (.int .i64 k)/\w'=w:=by
 go_enter Tryz.func54,Tryz.ntmps54;go_wp2;go_loopw [1,5](fun kv i wr=>i=.int .i64 0/\kv=.int .i64 k/\wr=w)(fun _ _ _=>0)
 case atStart=>exact⟨rfl,rfl,rfl⟩
 case round=>
  obtain⟨rfl,rfl,rfl⟩:=hrel;go_wp2;go_ret;exact⟨rfl,rfl⟩
theorem heldU_in(ao:Option Addr)(n cap:Nat)(k:Int)(w:World)(hn:n<=1048576)(k0:0<=k)(k1:k<=1125899906842624)(h:InRow w ao (n) (numF .u64 fun i=>k+i)):
 Calls Tryz.prog 54 #[.slice ao n cap,.int .i64 k] w fun e w'=>e=.returned (.int .i64 (k+n))/\w'=w:=by
 by_cases h0:n=0
 ·subst h0
  refine(heldU_nil ao cap k w).mono ?_;rintro e w'⟨rfl,rfl⟩;exact⟨by simp,rfl⟩
 ·rcases h with h|⟨b,off,rfl,h⟩
  ·omega
  ·exact heldU_at b off n cap k w hn k0 k1 h
theorem heldB_at(b off n cap:Nat)(k:Int)(w:World)(hn:n<=1048576)(k0:0<=k)(k1:k<=1125899906842624)(h:At w b off n (numF .u8 fun i=>(k+i)%256)):
 Calls Tryz.prog 83 #[.slice (some ⟨b,off,none⟩) n cap,.int .i64 k] w fun e w'=>e=.returned (.int .i64 (k+n))/\w'=w:=by
 have HA:Hid (At w b off n (numF .u8 fun i=>(k+i)%256)):=h;have hb:=h.lt;clear h;go_enter Tryz.func83,Tryz.ntmps83;go_wp2;go_loopw [1,5](fun kv i wr=>∃q:Nat,q<=n/\i=.int .i64 q/\kv=.int .i64 (k+q)/\wr=w)(fun _ i _=>n-(intOf i).toNat)
 case atStart=>exact⟨0,Nat.zero_le _,rfl,by simp,rfl⟩
 case round=>
  obtain⟨q,hq,rfl,rfl,rfl⟩:=hrel;by_cases hlt:q<n
  ·have hlt':(q:Int)<n:=by omega
   have g0:wr.cell? ⟨b,off+q,none⟩=some (.int .u8 ((k+q)%256)):=HA.out.cell hlt;have hi:IntKind.i64.wrap (k+q+1)=k+q+1:=i64_id (by omega) (by omega);go_wp2;go_roundw
   case rel=>exact⟨q+1,by omega,by go_num,by simp;omega,by first|rfl|trivial⟩
   case measure=>simp[intOf];omega
  ·obtain rfl:q=n:=by omega
   go_wp2;go_ret;exact⟨rfl,rfl⟩
theorem heldB_nil(ao:Option Addr)(cap:Nat)(k:Int)(w:World):
 Calls Tryz.prog 83 #[.slice ao 0 cap,.int .i64 k] w fun e w'=>e=.returned (.int .i64 k)/\w'=w:=by
 go_enter Tryz.func83,Tryz.ntmps83;go_wp2;go_loopw [1,5](fun kv i wr=>i=.int .i64 0/\kv=.int .i64 k/\wr=w)(fun _ _ _=>0)
 case atStart=>exact⟨rfl,rfl,rfl⟩
 case round=>
  obtain⟨rfl,rfl,rfl⟩:=hrel;go_wp2;go_ret;exact⟨rfl,rfl⟩
theorem heldB_in(ao:Option Addr)(n cap:Nat)(k:Int)(w:World)(hn:n<=1048576)(k0:0<=k)(k1:k<=1125899906842624)(h:InRow w ao (n) (numF .u8 fun i=>(k+i)%256)):
 Calls Tryz.prog 83 #[.slice ao n cap,.int .i64 k] w fun e w'=>e=.returned (.int .i64 (k+n))/\w'=w:=by
 by_cases h0:n=0
 ·subst h0
  refine(heldB_nil ao cap k w).mono ?_;rintro e w'⟨rfl,rfl⟩;exact⟨by simp,rfl⟩
 ·rcases h with h|⟨b,off,rfl,h⟩
  ·omega
  ·exact heldB_at b off n cap k w hn k0 k1 h
theorem heldO_at(b off n cap:Nat)(k:Int)(w:World)(hn:n<=1048576)(k0:0<=k)(k1:k<=2251799813685248)(h:At w b off (n*2) (obsF (fun i=>k+2*i) fun i=>k+2*i+1)):
 Calls Tryz.prog 56 #[.slice (some ⟨b,off,none⟩) n cap,.int .i64 k] w fun e w'=>e=.returned (.int .i64 (k+2*n))/\w'=w:=by
 have HA:Hid (At w b off (n*2) (obsF (fun i=>k+2*i) fun i=>k+2*i+1)):=h;have hb:=h.lt;clear h;go_enter Tryz.func56,Tryz.ntmps56;go_wp2;go_loopw [1,5](fun kv i wr=>∃q:Nat,q<=n/\i=.int .i64 q/\kv=.int .i64 (k+2*q)/\wr=w)(fun _ i _=>n-(intOf i).toNat)
 case atStart=>exact⟨0,Nat.zero_le _,rfl,by simp,rfl⟩
 case round=>
  obtain⟨q,hq,rfl,rfl,rfl⟩:=hrel;by_cases hlt:q<n
  ·have hlt':(q:Int)<n:=by omega
   have g0:wr.cell? ⟨b,off+q*2,none⟩=some (.int .i64 (k+2*q)):=by
    have:=HA.out.cell (i:=q*2+0) (by omega);rwa [obsF_0,Nat.add_zero]at this
   have g1:wr.cell? ⟨b,off+q*2+1,none⟩=some (.int .u64 (k+2*q+1)):=by
    have:=HA.out.cell (i:=q*2+1) (by omega);rwa [obsF_1,<-Nat.add_assoc]at this
   have hw:IntKind.u64.wrap (k+2*q+1)=k+2*q+1:=wrap_id (by omega) (by omega);have hi0:IntKind.i64.wrap (k+2*q)=k+2*q:=i64_id (by omega) (by omega);have hi:IntKind.i64.wrap (k+2*q+1)=k+2*q+1:=i64_id (by omega) (by omega);have hi2:IntKind.i64.wrap (k+2*q+1+1)=k+2*q+1+1:=i64_id (by omega) (by omega);go_wp2;go_roundw
   case rel=>exact⟨q+1,by omega,by go_num,by simp;omega,by first|rfl|trivial⟩
   case measure=>simp[intOf];omega
  ·obtain rfl:q=n:=by omega
   go_wp2;go_ret;exact⟨rfl,rfl⟩
theorem heldO_nil(ao:Option Addr)(cap:Nat)(k:Int)(w:World):
 Calls Tryz.prog 56 #[.slice ao 0 cap,.int .i64 k] w fun e w'=>e=.returned (.int .i64 k)/\w'=w:=by
 go_enter Tryz.func56,Tryz.ntmps56;go_wp2;go_loopw [1,5](fun kv i wr=>i=.int .i64 0/\kv=.int .i64 k/\wr=w)(fun _ _ _=>0)
 case atStart=>exact⟨rfl,rfl,rfl⟩
 case round=>
  obtain⟨rfl,rfl,rfl⟩:=hrel;go_wp2;go_ret;exact⟨rfl,rfl⟩
theorem heldO_in(ao:Option Addr)(n cap:Nat)(k:Int)(w:World)(hn:n<=1048576)(k0:0<=k)(k1:k<=2251799813685248)(h:InRow w ao (n*2) (obsF (fun i=>k+2*i) fun i=>k+2*i+1)):
 Calls Tryz.prog 56 #[.slice ao n cap,.int .i64 k] w fun e w'=>e=.returned (.int .i64 (k+2*n))/\w'=w:=by
 by_cases h0:n=0
 ·subst h0
  refine(heldO_nil ao cap k w).mono ?_;rintro e w'⟨rfl,rfl⟩;exact⟨by simp,rfl⟩
 ·rcases h with h|⟨b,off,rfl,h⟩
  ·omega
  ·exact heldO_at b off n cap k w hn k0 k1 h
theorem markIns_at(b n cap:Nat)(f:Nat->Value)(k:Int)(w:World)(hn:n<=1048576)(k0:0<=k)(k1:k<=1048576)(h:Arr w b (n*6) f):
 Calls Tryz.prog 21 #[.slice (some ⟨b,0,none⟩) n cap,.int .i64 k] w fun e w'=>e=.returned (.int .i64 (k+6*n))/\Fr (fun q=>q=b) w w':=by
 have HA:Hid (Arr w b (n*6) f):=h;clear h;go_enter Tryz.func21,Tryz.ntmps21;go_wp2;go_loopw [1,5](fun kv i wr=>∃q:Nat,q<=n/\i=.int .i64 q/\kv=.int .i64 (k+6*q)/\Fr (fun q=>q=b) w wr/\∃g,Arr wr b (n*6) g)(fun _ i _=>n-(intOf i).toNat)
 case atStart=>exact⟨0,Nat.zero_le _,rfl,by simp,Fr.refl _ _,f,HA.out⟩
 case round=>
  obtain⟨q,hq,rfl,rfl,hf,g,ha⟩:=hrel;by_cases hlt:q<n
  ·have hlt':(q:Int)<n:=by omega
   have g0:=ha.cell (i:=q*6) (by omega);have g1:=ha.cell (i:=q*6+1) (by omega);have g2:=ha.cell (i:=q*6+2) (by omega);have g3:=ha.cell (i:=q*6+3) (by omega);have g4:=ha.cell (i:=q*6+4) (by omega);have g5:=ha.cell (i:=q*6+5) (by omega);have gf:=ha.free;have hb:=ha.lt;have hi0:IntKind.i64.wrap (k+6*q)=k+6*q:=i64_id (by omega) (by omega);have hi1:IntKind.i64.wrap (k+6*q+1)=k+6*q+1:=i64_id (by omega) (by omega);have hi2:IntKind.i64.wrap (k+6*q+1+1)=k+6*q+1+1:=i64_id (by omega) (by omega);have hi3:IntKind.i64.wrap (k+6*q+1+1+1)=k+6*q+1+1+1:=i64_id (by omega) (by omega);have hi4:IntKind.i64.wrap (k+6*q+1+1+1+1)=k+6*q+1+1+1+1:=i64_id (by omega) (by omega);have hi5:IntKind.i64.wrap (k+6*q+1+1+1+1+1)=k+6*q+1+1+1+1+1:=i64_id (by omega) (by omega);have hi6:IntKind.i64.wrap (k+6*q+1+1+1+1+1+1)=k+6*q+1+1+1+1+1+1:=i64_id (by omega) (by omega);have HF:Hid (Fr (fun q=>q=b) w wr):=hf;have HR:Hid (Arr wr b (n*6) g):=ha;clear hf ha;go_wp2;go_roundw
   case rel=>exact⟨q+1,by omega,by go_num,by simp;omega,(((((HF.out.set (.inl rfl) _ _).set (.inl rfl) _ _).set (.inl rfl) _ _).set (.inl rfl) _ _).set (.inl rfl) _ _).set (.inl rfl) _ _,_,(((((HR.out.put (by omega) _).put (by omega) _).put (by omega) _).put (by omega) _).put (by omega) _).put (by omega) _⟩
   case measure=>simp[intOf];omega
  ·obtain rfl:q=n:=by omega
   have HF:Hid (Fr (fun q=>q=b) w wr):=hf;clear hf ha;go_wp2;go_ret;exact⟨rfl,HF.out⟩
end Go.Proofs.YtpbceodheeepoaaGreat
