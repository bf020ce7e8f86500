import Derived.Test.YtiphbmhoifggiaaGreatDoorAsmSpec
import Derived.Test.YtiphbmhoifggiaaGreatDoorOfRegT
import Derived.WalkLawsBesides
import Derived.Deep.QuietTactic
import Derived.BigQuiet
set_option maxHeartbeats 400000
namespace Go.Proofs.YtiphbmhoifggiaaGreatDoor
open Go.RowKit
theorem i64_id{x:Int}(h0:0<=x)(h1:x<4611686018427387904):IntKind.i64.wrap x=x:=by
 rw[IntKind.wrap_i64];omega
structure Fr(S:Nat->Prop)(w w':World):Prop where
 os:w'.os=w.os
 tape:w'.tape=w.tape
 output:w'.output=w.output
 size:w.heap.size<=w'.heap.size
 block:∀k,k<w.heap.size->¬S k->w'.heap[k]?=w.heap[k]?
theorem Fr.refl(S:Nat->Prop)(w:World):Fr S w w:=⟨rfl,rfl,rfl,Nat.le_refl _,fun _ _ _=>rfl⟩
theorem Fr.trans{S:Nat->Prop}{a b c:World}(h:Fr S a b)(k:Fr S b c):Fr S a c:=
 ⟨k.os.trans h.os,k.tape.trans h.tape,k.output.trans h.output,Nat.le_trans h.size k.size,fun i hi hn=>(k.block i (Nat.lt_of_lt_of_le hi h.size) hn).trans (h.block i hi hn)⟩
theorem Fr.mono{S T:Nat->Prop}{a b:World}(h:Fr S a b)(hs:∀k,S k->T k):Fr T a b:=⟨h.os,h.tape,h.output,h.size,fun i hi hn=>h.block i hi fun q=>hn (hs i q)⟩
theorem Fr.set{S:Nat->Prop}{a b:World}(h:Fr S a b){k:Nat}(hk:S k∨a.heap.size<=k)(o:Nat)(v:Value):Fr S a (b.setCell ⟨k,o,none⟩ v):=
 ⟨h.os,h.tape,h.output,by simpa using h.size,fun i hi hn=>by
   have hne:i≠k:=fun q=>by
    rcases hk with hk|hk
    ·exact hn (by rw[q];exact hk)
    ·omega
   rw[heap_setCell_other _ _ _ _ hne];exact h.block i hi hn⟩
theorem Fr.of_below{S:Nat->Prop}{w w':World}(h:Below w.heap.size w w'):Fr S w w':=⟨h.os,h.tape,h.output,h.size,fun k hk _=>h.block k hk⟩
theorem Fr.cell{S:Nat->Prop}{w w':World}(h:Fr S w w'){b o:Nat}(hb:b<w.heap.size)(hn:¬S b):w'.cell? ⟨b,o,none⟩=w.cell? ⟨b,o,none⟩:=World.cell?_of_block (a:=⟨b,o,none⟩) (h.block b hb hn)
theorem Fr.frozen{S:Nat->Prop}{w w':World}(h:Fr S w w'){b o:Nat}(hb:b<w.heap.size)(hn:¬S b):w'.frozen? ⟨b,o,none⟩=w.frozen? ⟨b,o,none⟩:=World.frozen?_of_block (a:=⟨b,o,none⟩) (h.block b hb hn)
theorem Fr.arr{S:Nat->Prop}{w w':World}(h:Fr S w w'){b n:Nat}{f:Nat->Value}(ha:Arr w b n f)(hn:¬S b):Arr w' b n f:=
 ⟨Nat.lt_of_lt_of_le ha.1 h.size,fun i=>(h.frozen ha.1 hn).trans (ha.2.1 i),fun i hi=>(h.cell ha.1 hn).trans (ha.2.2 i hi)⟩
theorem Arr.put{w:World}{b n:Nat}{f:Nat->Value}(h:Arr w b n f){j:Nat}(hj:j<n)(v:Value):Arr (w.setCell ⟨b,j,none⟩ v) b n (fun i=>if i=j then v else f i):=by
 have:=h.setCells j [v] (by simp;omega);refine Arr.congr (f:=_) (by simpa[World.setCells]using this) fun i hi=>?_
 by_cases e:i=j
 ·subst e;simp
 ·have:¬(j<=i/\i<j+1):=by omega
  simp[e,this]
def WrR(w:World)(ao:Option Addr)(n:Nat)(f:Nat->Value):Prop:=n=0∨∃b,ao=some ⟨b,0,none⟩/\Arr w b n f
def Blk(ao:Option Addr)(n q:Nat):Prop:=n≠0/\ao=some ⟨q,0,none⟩
theorem WrR.inRow{w:World}{ao:Option Addr}{n:Nat}{f:Nat->Value}(h:WrR w ao n f):InRow w ao n f:=by
 rcases h with h|⟨b,rfl,h⟩
 ·exact .inl h
 ·exact .inr ⟨b,0,rfl,h.at⟩
theorem WrR.below{w w':World}{ao:Option Addr}{n:Nat}{f:Nat->Value}(h:WrR w ao n f)(hb:Below w.heap.size w w'):WrR w' ao n f:=by
 rcases h with h|⟨b,rfl,h⟩
 ·exact .inl h
 ·exact .inr ⟨b,rfl,h.below hb h.lt⟩
def bF(l:List UInt8)(i:Nat):Int:=((l.getD i 0).toNat:Int)
theorem bc_at(l:List UInt8)(i:Nat)(h:i<l.length):(Lib.byteCells l)[i]?=some (numF .u8 (bF l) i):=by
 unfold Lib.byteCells numF bF;simp[h]
theorem row_wr{w:World}{base e n:Nat}{v:Value}{l:List UInt8}(h:w.ownsRow base e 1 v n (Lib.byteCells l)):n=l.length/\∃ao cap,v=.slice ao l.length cap/\WrR w ao l.length (numF .u8 (bF l))/\∀q,Blk ao l.length q->base<=q/\q<w.heap.size:=by
 have hn:n=l.length:=by have:=h.1;rw[Lib.byteCells_length]at this;omega
 subst hn;refine⟨rfl,?_⟩;have h':=h;rcases h.2 with⟨rfl,h0⟩|⟨g,cap,cur,rfl,hg,hb,_⟩
 ·rw[h0]
  exact⟨none,0,rfl,.inl rfl,fun q hq=>absurd rfl hq.1⟩
 ·refine⟨some ⟨g,0,none⟩,cap,rfl,.inr ⟨g,rfl,(h.lt g rfl).2,fun i=>h'.frozenAt i,fun i hi=>?_⟩,fun q hq=>?_⟩
  ·rw[h'.cellAt i (by omega),bc_at l i hi]
  ·have:g=q:=by have:=hq.2;simp at this;exact this
   subst this;exact⟨hg,(h.lt g rfl).2⟩
theorem markB_at(b n cap:Nat)(f:Nat->Value)(k:Int)(w:World)(hn:(n:Int)<=1099511627776)(k0:0<=k)(k1:k<=1125899906842624)(h:Arr w b n f):
 Calls Tryz.prog 11 #[.slice (some ⟨b,0,none⟩) n cap,.int .i64 k] w fun e w'=>e=.returned (.int .i64 (k+n))/\Fr (fun q=>q=b) w w'/\Arr w' b n (numF .u8 fun i=>(k+i)%256):=by
 have HA:Hid (Arr w b n f):=h;clear h;go_enter Tryz.func11,Tryz.ntmps11;go_wp2;go_loopw [1,5](fun kv i wr=>∃q:Nat,q<=n/\i=.int .i64 q/\kv=.int .i64 (k+q)/\Fr (fun q=>q=b) w wr/\Arr wr b n (upTo (numF .u8 fun i=>(k+i)%256) f q))(fun _ i _=>n-(intOf i).toNat)
 case atStart=>exact⟨0,Nat.zero_le _,rfl,by simp,Fr.refl _ _,HA.out.congr fun i _=>(upTo_zero _ _ _).symm⟩
 case round=>
  obtain⟨q,hq,rfl,rfl,hf,ha⟩:=hrel;by_cases hlt:q<n
  ·have hlt':(q:Int)<n:=by omega
   have g0:=ha.cell hlt;have gf:=ha.free q;have hb:=ha.lt;have hi:IntKind.i64.wrap (k+q+1)=k+q+1:=i64_id (by omega) (by omega);have HF:Hid (Fr (fun q=>q=b) w wr):=hf;have HR:Hid (Arr wr b n (upTo (numF .u8 fun i=>(k+i)%256) f q)):=ha;clear hf ha;go_wp2;go_roundw
   case rel=>
    refine⟨q+1,by omega,by go_num,by simp;omega,HF.out.set (.inl rfl) _ _,?_⟩;have:=HR.out.fill (vs:=[.int .u8 ((k+q)%256)]) (by simp;omega) (fun j hj=>by
     have:j=0:=by simpa using hj
     subst this;simp[numF])
    simpa[World.setCells]using this
   case measure=>simp[intOf];omega
  ·obtain rfl:q=n:=by omega
   have HF:Hid (Fr (fun q=>q=b) w wr):=hf;have HR:Hid (Arr wr b q (upTo (numF .u8 fun i=>(k+i)%256) f q)):=ha;clear hf ha;go_wp2;go_ret;exact⟨rfl,HF.out,HR.out.filled⟩
theorem markB_nil(ao:Option Addr)(cap:Nat)(k:Int)(w:World):
 Calls Tryz.prog 11 #[.slice ao 0 cap,.int .i64 k] w fun e w'=>e=.returned (.int .i64 k)/\w'=w:=by
 go_enter Tryz.func11,Tryz.ntmps11;go_wp2;go_loopw [1,5](fun kv i wr=>i=.int .i64 0/\kv=.int .i64 k/\wr=w)(fun _ _ _=>0)
 case atStart=>exact⟨rfl,rfl,rfl⟩
 case round=>
  obtain⟨rfl,rfl,rfl⟩:=hrel;go_wp2;go_ret;exact⟨rfl,rfl⟩
theorem markB_in(ao:Option Addr)(n cap:Nat)(f:Nat->Value)(k:Int)(w:World)(hn:(n:Int)<=1099511627776)(k0:0<=k)(k1:k<=1125899906842624)(h:WrR w ao (n) f):
 Calls Tryz.prog 11 #[.slice ao n cap,.int .i64 k] w fun e w'=>e=.returned (.int .i64 (k+n))/\Fr (Blk ao (n)) w w'/\WrR w' ao (n) (numF .u8 fun i=>(k+i)%256):=by
 by_cases h0:n=0
 ·subst h0
  refine(markB_nil ao cap k w).mono ?_;rintro e w'⟨rfl,rfl⟩;exact⟨by simp,Fr.refl _ _,.inl (by omega)⟩
 ·rcases h with h|⟨b,rfl,h⟩
  ·omega
  ·refine(markB_at b n cap f k w hn k0 k1 h).mono ?_
   rintro e w'⟨rfl,h1,h2⟩;exact⟨rfl,h1.mono (fun q hq=>⟨by omega,by rw[hq]⟩),.inr ⟨b,rfl,h2⟩⟩
theorem heldB_at(b off n cap:Nat)(k:Int)(w:World)(hn:(n:Int)<=1099511627776)(k0:0<=k)(k1:k<=1125899906842624)(h:At w b off n (numF .u8 fun i=>(k+i)%256)):
 Calls Tryz.prog 12 #[.slice (some ⟨b,off,none⟩) n cap,.int .i64 k] w fun e w'=>e=.returned (.int .i64 (k+n))/\w'=w:=by
 have HA:Hid (At w b off n (numF .u8 fun i=>(k+i)%256)):=h;have hb:=h.lt;clear h;go_enter Tryz.func12,Tryz.ntmps12;go_wp2;go_loopw [1,5](fun kv i wr=>∃q:Nat,q<=n/\i=.int .i64 q/\kv=.int .i64 (k+q)/\wr=w)(fun _ i _=>n-(intOf i).toNat)
 case atStart=>exact⟨0,Nat.zero_le _,rfl,by simp,rfl⟩
 case round=>
  obtain⟨q,hq,rfl,rfl,rfl⟩:=hrel;by_cases hlt:q<n
  ·have hlt':(q:Int)<n:=by omega
   have g0:wr.cell? ⟨b,off+q,none⟩=some (.int .u8 ((k+q)%256)):=HA.out.cell hlt;have hi:IntKind.i64.wrap (k+q+1)=k+q+1:=i64_id (by omega) (by omega);go_wp2;go_roundw
   case rel=>exact⟨q+1,by omega,by go_num,by simp;omega,by first|rfl|trivial⟩
   case measure=>simp[intOf];omega
  ·obtain rfl:q=n:=by omega
   go_wp2;go_ret;exact⟨rfl,rfl⟩
theorem heldB_nil(ao:Option Addr)(cap:Nat)(k:Int)(w:World):
 Calls Tryz.prog 12 #[.slice ao 0 cap,.int .i64 k] w fun e w'=>e=.returned (.int .i64 k)/\w'=w:=by
 go_enter Tryz.func12,Tryz.ntmps12;go_wp2;go_loopw [1,5](fun kv i wr=>i=.int .i64 0/\kv=.int .i64 k/\wr=w)(fun _ _ _=>0)
 case atStart=>exact⟨rfl,rfl,rfl⟩
 case round=>
  obtain⟨rfl,rfl,rfl⟩:=hrel;go_wp2;go_ret;exact⟨rfl,rfl⟩
theorem heldB_in(ao:Option Addr)(n cap:Nat)(k:Int)(w:World)(hn:(n:Int)<=1099511627776)(k0:0<=k)(k1:k<=1125899906842624)(h:InRow w ao (n) (numF .u8 fun i=>(k+i)%256)):
 Calls Tryz.prog 12 #[.slice ao n cap,.int .i64 k] w fun e w'=>e=.returned (.int .i64 (k+n))/\w'=w:=by
 by_cases h0:n=0
 ·subst h0
  refine(heldB_nil ao cap k w).mono ?_;rintro e w'⟨rfl,rfl⟩;exact⟨by simp,rfl⟩
 ·rcases h with h|⟨b,off,rfl,h⟩
  ·omega
  ·exact heldB_at b off n cap k w hn k0 k1 h
theorem eqByteS_same(b off len cap b' off' cap':Nat)(R:Nat->Int)(w:World)(hlen:(len:Int)<=1099511627776)(hat:At w b off len (numF .u8 R))(hat':At w b' off' len (numF .u8 R)):
 Calls Tryz.prog 8 #[.slice (some ⟨b,off,none⟩) len cap,.slice (some ⟨b',off',none⟩) len cap'] w fun e w'=>e=.returned (.bool true)/\Below w.heap.size w w':=by
 have hb:=hat.lt;have hb':=hat'.lt;have HA:Hid (At w b off len (numF .u8 R)):=hat;have HA':Hid (At w b' off' len (numF .u8 R)):=hat';clear hat hat';go_enter Tryz.func8,Tryz.ntmps8;go_wp2;go_loopw [5](fun i wr=>∃k:Nat,k<=len/\i=.int .i64 k/\Below w.heap.size w wr)(fun i _=>len-(intOf i).toNat)
 case atStart=>exact⟨0,Nat.zero_le _,rfl,Below.refl _ _⟩
 case round=>
  obtain⟨k,hk,rfl,hbr⟩:=hrel;by_cases hlt:k<len
  ·have g0:wr.cell? ⟨b,off+k,none⟩=some (.int .u8 (R k)):=(hbr.cell (p:=⟨b,off+k,none⟩) hb).trans (HA.out.cell (i:=k) hlt)
   have q0:wr.cell? ⟨b',off'+k,none⟩=some (.int .u8 (R k)):=(hbr.cell (p:=⟨b',off'+k,none⟩) hb').trans (HA'.out.cell (i:=k) hlt);have hlt':(k:Int)<(len:Int):=by omega
   go_wp2_with fail;go_quiet(fail);go_wp2;go_roundw
   case rel=>exact⟨k+1,by omega,by go_num,below_drewN hbr _⟩
   case measure=>simp[intOf];omega
  ·go_wp2
   go_ret;exact⟨rfl,hbr⟩
theorem eqByteS_nil(ao ao':Option Addr)(cap cap':Nat)(w:World):
 Calls Tryz.prog 8 #[.slice ao 0 cap,.slice ao' 0 cap'] w fun e w'=>e=.returned (.bool true)/\Below w.heap.size w w':=by
 go_enter Tryz.func8,Tryz.ntmps8;go_wp2;go_loopw [5](fun i wr=>i=.int .i64 0/\wr=w)(fun _ _=>0)
 case atStart=>exact⟨rfl,rfl⟩
 case round=>
  obtain⟨rfl,rfl⟩:=hrel;go_wp2;go_ret;exact⟨rfl,Below.refl _ _⟩
end Go.Proofs.YtiphbmhoifggiaaGreatDoor
