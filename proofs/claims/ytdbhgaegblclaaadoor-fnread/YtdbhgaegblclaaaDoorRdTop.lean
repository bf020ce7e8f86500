import Derived.Test.YtdbhgaegblclaaaDoorRdSpec
import Derived.Test.YtdbhgaegblclaaaDoorRdImpl
import Derived.Test.YtdbhgaegblclaaaDoorRdLine
import Derived.Test.YtdbhgaegblclaaaDoorOfFlatAny
import Derived.Test.YtdbhgaegblclaaaDoorOfRegT
import Derived.WalkLawsBesides
import Derived.Deep.QuietTactic
import Derived.BigQuiet
set_option maxHeartbeats 16000000
set_option maxRecDepth 20000
namespace Go.Proofs.YtdbhgaegblclaaaDoor
open Go.RowKit
def markL(k:Int)(p:Nat):Value:=.int .i64 (k+(p:Int))
theorem toByteS_at(b off len cap:Nat)(R:Nat->Int)(w:World)(hlen:len<=1048576)(hat:At w b off len (numF .u8 R)):
 Calls Tryd.prog 23 #[.slice (some ⟨b,off,none⟩) len cap] w fun e w'=>e=.returned (.slice (some ⟨w.heap.size,0,none⟩) len len)/\Below w.heap.size w w'/\Arr w' w.heap.size len (numF .u8 R):=by
 obtain⟨i0,hi,hz0,hz1,hz2⟩:=info_parts info_u8;have hb:=hat.lt;have HA:Hid (At w b off len (numF .u8 R)):=hat;clear hat;go_enter Tryd.func23,Tryd.ntmps23;go_wp2_with(first|(at_make;refine wpList_make_full _ rfl _ _ 22 rfl w.heap.size 5 i0 _ 1 Tryd.underlying22 hi hz0 hz1 .i64 .i64 _ _ len rfl rfl ?c1 ?c2 ?c3 ?c4 ?c5 ?_)|go_in)
 case c1=>rfl
 case c2=>rfl
 case c3=>rw[hz2];omega
 case c4=>unfold maxLen;omega
 case c5=>exact Nat.le_refl _
 ·intro w1 hown hgrow
  have hbel:Below w.heap.size w w1:=(Below.refl _ _).grown hgrow (Nat.le_refl _) (by intro k hk;cases hk);have harr:Arr w1 w.heap.size len (upTo (numF .u8 R) (fun _=>.int .u8 0) 0):=by
   have:=Arr.made (z:=upTo (numF .u8 R) (fun _=>.int .u8 0) 0) hown fun i hi=>by
    rw[made_get _ len i (by omega),upTo_zero];simp[Nat.mod_one]
   rwa [Nat.mul_one]at this
  clear hown hgrow hi hz0 hz1 hz2;go_wp2;go_loopw [4](fun i wr=>∃k:Nat,k<=len/\i=.int .i64 k/\Below w.heap.size w wr/\Arr wr w.heap.size len (upTo (numF .u8 R) (fun _=>.int .u8 0) k))(fun i _=>len-(intOf i).toNat)
  case atStart=>exact⟨0,Nat.zero_le _,rfl,hbel,harr⟩
  case round=>
   clear harr hbel;obtain⟨k,hk,rfl,hbr,har⟩:=hrel;have HAR:Hid (Arr wr w.heap.size len (upTo (numF .u8 R) (fun _=>.int .u8 0) k)):=har;clear har;by_cases hlt:k<len
   ·have g0:wr.cell? ⟨b,off+k,none⟩=some (.int .u8 (R k)):=(hbr.cell (p:=⟨b,off+k,none⟩) hb).trans (HA.out.cell (i:=k) hlt)
    have f2:=HAR.out.free;have c0:=HAR.out.cell (i:=k) hlt;go_wp2;go_roundw
    case rel=>exact⟨k+1,by omega,by go_num,below_setCells (Nat.le_refl _) [.int .u8 (R k)] k hbr,HAR.out.fill (vs:=[.int .u8 (R k)]) (by simp;omega) (fun j hj=>by simp at hj;subst hj;rfl)⟩
    case measure=>simp[intOf];omega
   ·go_wp2
    go_ret;obtain rfl:k=len:=by omega
    exact⟨rfl,hbr,HAR.out.filled⟩
theorem toByteS_nil(ao:Option Addr)(cap:Nat)(R:Nat->Int)(w:World):
 Calls Tryd.prog 23 #[.slice ao 0 cap] w fun e w'=>e=.returned (.slice (some ⟨w.heap.size,0,none⟩) 0 0)/\Below w.heap.size w w'/\Arr w' w.heap.size 0 (numF .u8 R):=by
 obtain⟨i0,hi,hz0,hz1,hz2⟩:=info_parts info_u8;go_enter Tryd.func23,Tryd.ntmps23;go_wp2_with(first|(at_make;refine wpList_make_full _ rfl _ _ 22 rfl w.heap.size 5 i0 _ 1 Tryd.underlying22 hi hz0 hz1 .i64 .i64 _ _ 0 rfl rfl ?c1 ?c2 ?c3 ?c4 ?c5 ?_)|go_in)
 case c1=>rfl
 case c2=>rfl
 case c3=>rw[hz2];omega
 case c4=>unfold maxLen;omega
 case c5=>exact Nat.le_refl _
 ·intro w1 hown hgrow
  have hbel:Below w.heap.size w w1:=(Below.refl _ _).grown hgrow (Nat.le_refl _) (by intro k hk;cases hk);have harr:Arr w1 w.heap.size (0*1) (numF .u8 R):=Arr.made hown fun i hi=>by omega
  have HX:Hid (Below w.heap.size w w1/\Arr w1 w.heap.size (0*1) (numF .u8 R)):=⟨hbel,harr⟩
  clear hown hgrow hi hz0 hz1 hz2 hbel harr;go_wp2;refine wp_loop_rounds 1 ?_;rw[rounds_succ];go_wp2;go_ret;exact⟨rfl,HX.out.1,HX.out.2⟩
theorem toByteS_in(ao:Option Addr)(len cap:Nat)(R:Nat->Int)(w:World)(hlen:len<=1048576)(h:InRow w ao len (numF .u8 R)):
 Calls Tryd.prog 23 #[.slice ao len cap] w fun e w'=>e=.returned (.slice (some ⟨w.heap.size,0,none⟩) len len)/\Below w.heap.size w w'/\Arr w' w.heap.size len (numF .u8 R):=by
 rcases h with rfl|⟨b,off,rfl,h⟩
 ·exact toByteS_nil ao cap R w
 ·exact toByteS_at b off len cap R w hlen h
theorem markIn_at(b n cap:Nat)(f:Nat->Value)(k:Int)(w:World)(ln:n<=1048576)(k0:0<=k)(k1:k<=1125899906842624)(hA:Arr w b (n*6) f):
 Calls Tryd.prog 20 #[.slice (some ⟨b,0,none⟩) n cap,.int .i64 k] w fun e w'=>e=.returned (.int .i64 (k+6*(n:Int)))/\Fr (fun q=>q=b) w w'/\Arr w' b (n*6) (markL k):=by
 have HA:Hid (Arr w b (n*6) f):=hA;clear hA;go_enter Tryd.func20,Tryd.ntmps20;go_wp2;go_loopw [1,5](fun kv iv wr=>∃j:Nat,j<=n/\kv=.int .i64 (k+6*(j:Int))/\iv=.int .i64 (j:Int)/\Fr (fun q=>q=b) w wr/\Arr wr b (n*6) (upTo (markL k) f (j*6)))(fun _ iv _=>n-(intOf iv).toNat)
 case atStart=>exact⟨0,Nat.zero_le _,by simp,rfl,Fr.refl _ _,HA.out.congr fun i _=>by rw[Nat.zero_mul,upTo_zero]⟩
 case round=>
  obtain⟨j,hj,hkv,hiv,hf,ha⟩:=hrel;obtain⟨kj,hkj⟩:∃y:Int,k+6*(j:Int)=y:=⟨_,rfl⟩
  rw[hkj]at hkv;subst hkv hiv;have HKJ:Hid (k+6*(j:Int)=kj):=hkj;have kb0:0<=kj:=by omega
  have kb1:kj<=2251799813685248:=by omega
  have F2:Hid (Fr (fun q=>q=b) w wr):=hf;have A2:Hid (Arr wr b (n*6) (upTo (markL k) f (j*6))):=ha;clear hf ha hkj;by_cases hlt:j<n
  ·have hlt':(j:Int)<(n:Int):=by omega
   have c0:=A2.out.cell (i:=j*6) (by omega);have c1:=A2.out.cell (i:=j*6+1) (by omega);have c2:=A2.out.cell (i:=j*6+2) (by omega);have c3:=A2.out.cell (i:=j*6+3) (by omega);have c4:=A2.out.cell (i:=j*6+4) (by omega);have c5:=A2.out.cell (i:=j*6+5) (by omega);have cf:=A2.out.free;have cl:=A2.out.lt;have A3:Hid (Arr (wr.setCells b (j*6) [.int .i64 kj,.int .i64 (kj+1),.int .i64 (kj+1+1),.int .i64 (kj+1+1+1),.int .i64 (kj+1+1+1+1),.int .i64 (kj+1+1+1+1+1)]) b (n*6) (upTo (markL k) f ((j+1)*6))):=(by
    rw[show(j+1)*6=j*6+6 by omega];exact A2.out.fill (vs:=[.int .i64 kj,.int .i64 (kj+1),.int .i64 (kj+1+1),.int .i64 (kj+1+1+1),.int .i64 (kj+1+1+1+1),.int .i64 (kj+1+1+1+1+1)]) (by simp;omega) (fun c hc=>by
     have hc':c<6:=by simpa using hc
     match c,hc' with
     |0,_=>exact congrArg (Value.int .i64) (by have:=HKJ.out;omega)
     |1,_=>exact congrArg (Value.int .i64) (by have:=HKJ.out;omega)
     |2,_=>exact congrArg (Value.int .i64) (by have:=HKJ.out;omega)
     |3,_=>exact congrArg (Value.int .i64) (by have:=HKJ.out;omega)
     |4,_=>exact congrArg (Value.int .i64) (by have:=HKJ.out;omega)
     |5,_=>exact congrArg (Value.int .i64) (by have:=HKJ.out;omega)):Arr (wr.setCells b (j*6) [.int .i64 kj,.int .i64 (kj+1),.int .i64 (kj+1+1),.int .i64 (kj+1+1+1),.int .i64 (kj+1+1+1+1),.int .i64 (kj+1+1+1+1+1)]) b (n*6) (upTo (markL k) f ((j+1)*6)))
   have F3:Hid (Fr (fun q=>q=b) w (wr.setCells b (j*6) [.int .i64 kj,.int .i64 (kj+1),.int .i64 (kj+1+1),.int .i64 (kj+1+1+1),.int .i64 (kj+1+1+1+1),.int .i64 (kj+1+1+1+1+1)])):=((((((F2.out.set (.inl rfl) _ _).set (.inl rfl) _ _).set (.inl rfl) _ _).set (.inl rfl) _ _).set (.inl rfl) _ _).set (.inl rfl) _ _)
   go_wp2;go_roundw
   case rel=>exact⟨j+1,by omega,congrArg (Value.int .i64) (by have:=HKJ.out;omega),by go_num,F3.out,A3.out⟩
   case measure=>simp[intOf];omega
  ·obtain rfl:j=n:=by omega
   have hlt':¬(j:Int)<(j:Int):=by omega
   go_wp2;go_ret;exact⟨ret_int HKJ.out.symm,F2.out,A2.out.filled⟩
theorem markIn_nil(ao:Option Addr)(cap:Nat)(k:Int)(w:World):
 Calls Tryd.prog 20 #[.slice ao 0 cap,.int .i64 k] w fun e w'=>e=.returned (.int .i64 k)/\w'=w:=by
 go_enter Tryd.func20,Tryd.ntmps20;go_wp2;refine wp_loop_rounds 1 ?_;rw[rounds_succ];go_wp2;go_ret;exact⟨rfl,rfl⟩
theorem heldIn_at(b n cap:Nat)(k:Int)(w:World)(ln:n<=1048576)(k0:0<=k)(k1:k<=1125899906842624)(hA:Arr w b (n*6) (markL k)):
 Calls Tryd.prog 55 #[.slice (some ⟨b,0,none⟩) n cap,.int .i64 k] w fun e w'=>e=.returned (.int .i64 (k+6*(n:Int)))/\w'=w:=by
 have HA:Hid (Arr w b (n*6) (markL k)):=hA;have lb:=hA.lt;clear hA;go_enter Tryd.func55,Tryd.ntmps55;go_wp2;go_loopw [1,5](fun kv iv wr=>∃j:Nat,j<=n/\kv=.int .i64 (k+6*(j:Int))/\iv=.int .i64 (j:Int)/\wr=w)(fun _ iv _=>n-(intOf iv).toNat)
 case atStart=>exact⟨0,Nat.zero_le _,by simp,rfl,rfl⟩
 case round=>
  obtain⟨j,hj,hkv,hiv,hw⟩:=hrel;obtain⟨kj,hkj⟩:∃y:Int,k+6*(j:Int)=y:=⟨_,rfl⟩
  rw[hkj]at hkv;subst hkv hiv hw;have HKJ:Hid (k+6*(j:Int)=kj):=hkj;have kb0:0<=kj:=by omega
  have kb1:kj<=2251799813685248:=by omega
  clear hkj;by_cases hlt:j<n
  ·have hlt':(j:Int)<(n:Int):=by omega
   have c0:wr.cell? ⟨b,j*6,none⟩=some (.int .i64 (kj)):=(HA.out.cell (i:=j*6) (by omega)).trans (congrArg (fun x=>some (Value.int .i64 x)) (by have:=HKJ.out;omega));have c1:wr.cell? ⟨b,j*6+1,none⟩=some (.int .i64 (kj+1)):=(HA.out.cell (i:=j*6+1) (by omega)).trans (congrArg (fun x=>some (Value.int .i64 x)) (by have:=HKJ.out;omega));have c2:wr.cell? ⟨b,j*6+2,none⟩=some (.int .i64 (kj+1+1)):=(HA.out.cell (i:=j*6+2) (by omega)).trans (congrArg (fun x=>some (Value.int .i64 x)) (by have:=HKJ.out;omega));have c3:wr.cell? ⟨b,j*6+3,none⟩=some (.int .i64 (kj+1+1+1)):=(HA.out.cell (i:=j*6+3) (by omega)).trans (congrArg (fun x=>some (Value.int .i64 x)) (by have:=HKJ.out;omega));have c4:wr.cell? ⟨b,j*6+4,none⟩=some (.int .i64 (kj+1+1+1+1)):=(HA.out.cell (i:=j*6+4) (by omega)).trans (congrArg (fun x=>some (Value.int .i64 x)) (by have:=HKJ.out;omega));have c5:wr.cell? ⟨b,j*6+5,none⟩=some (.int .i64 (kj+1+1+1+1+1)):=(HA.out.cell (i:=j*6+5) (by omega)).trans (congrArg (fun x=>some (Value.int .i64 x)) (by have:=HKJ.out;omega));go_wp2;go_roundw
   case rel=>exact⟨j+1,by omega,congrArg (Value.int .i64) (by have:=HKJ.out;omega),by go_num,by first|rfl|trivial⟩
   case measure=>simp[intOf];omega
  ·obtain rfl:j=n:=by omega
   have hlt':¬(j:Int)<(j:Int):=by omega
   go_wp2;go_ret;exact⟨ret_int HKJ.out.symm,rfl⟩
theorem heldIn_nil(ao:Option Addr)(cap:Nat)(k:Int)(w:World):
 Calls Tryd.prog 55 #[.slice ao 0 cap,.int .i64 k] w fun e w'=>e=.returned (.int .i64 k)/\w'=w:=by
 go_enter Tryd.func55,Tryd.ntmps55;go_wp2;refine wp_loop_rounds 1 ?_;rw[rounds_succ];go_wp2;go_ret;exact⟨rfl,rfl⟩
theorem eqInsS_nilL(ao ao':Option Addr)(cap cap':Nat)(w:World):
 Calls Tryd.prog 19 #[.slice ao 0 cap,.slice ao' 0 cap'] w fun e w'=>e=.returned (.bool true)/\Below w.heap.size w w':=by
 go_enter Tryd.func19,Tryd.ntmps19;go_wp2;refine wp_loop_rounds 1 ?_;rw[rounds_succ];go_wp2;go_ret;exact⟨rfl,Below.refl _ _⟩
theorem row_some2{w:World}{base e size n:Nat}{v:Value}{xs:List Value}(h:w.ownsRow base e size v n xs)(hn:0<n):∃g c,v=.slice (some ⟨g,0,none⟩) n c:=by
 rcases h.2 with⟨_,h0⟩|⟨g,cap,cur,h',_⟩
 ·omega
 ·exact⟨g,cap,h'⟩
theorem rowI_arr{w:World}{base e g c:Nat}{xs:List NV}(h:w.ownsRow base e 6 (.slice (some ⟨g,0,none⟩) xs.length c) xs.length (ci xs)):Arr w g (xs.length*6) (insF (prF xs)):=
 ⟨(h.lt g rfl).2,fun i=>h.frozenAt i,fun i hi=>by rw[h.cellAt i hi];exact ci_get xs i hi⟩
theorem rowI_zero{w:World}{base e size n:Nat}{v:Value}{xs:List Value}(h:w.ownsRow base e size v n xs)(hn:n=0):∃(ao:Option Addr)(c:Nat),v=.slice ao 0 c:=by
 rcases h.2 with⟨h',_⟩|⟨g,cap,cur,h',_⟩
 ·exact⟨_,_,h'⟩
 ·rw[hn]at h';exact⟨_,_,h'⟩
theorem eqInsS_rows{b1 b2:Nat}{v v':Value}(xs:List NV)(w:World)(hlen:xs.length<=1048576)(h:w.ownsRow b1 56 6 v xs.length (ci xs))(h':w.ownsRow b2 56 6 v' xs.length (ci xs)):
 Calls Tryd.prog 19 #[v,v'] w fun e w'=>e=.returned (.bool true)/\Below w.heap.size w w':=by
 by_cases h0:xs.length=0
 ·obtain⟨ao,c,rfl⟩:=rowI_zero h h0
  obtain⟨ao',c',rfl⟩:=rowI_zero h' h0;exact eqInsS_nilL ao ao' c c' w
 ·obtain⟨g,c,rfl⟩:=row_some2 h (by omega)
  obtain⟨g',c',rfl⟩:=row_some2 h' (by omega);exact eqInsS_same g 0 xs.length c g' 0 c' _ w hlen (rowI_arr h).at (rowI_arr h').at
theorem Fr.under{S:Nat->Prop}{B:Nat}{w w':World}(h:Fr S w w')(hB:B<=w.heap.size)(hs:∀k,k<B->¬S k):Below B w w':=⟨h.os,h.tape,h.output,h.size,fun k hk=>h.block k (by omega) (hs k hk)⟩
theorem markIn_row{base:Nat}{v:Value}(xs:List NV)(k:Int)(w:World)(hlen:xs.length<=1048576)(k0:0<=k)(k1:k<=1125899906842624)(h:w.ownsRow base 56 6 v xs.length (ci xs)):
 Calls Tryd.prog 20 #[v,.int .i64 k] w fun e w'=>e=.returned (.int .i64 (k+6*(xs.length:Int)))/\Fr (fun q=>v.ownBlock=some q) w w'/\(xs.length=0∨∃g c,v=.slice (some ⟨g,0,none⟩) xs.length c/\Arr w' g (xs.length*6) (markL k)):=by
 by_cases h0:xs.length=0
 ·obtain⟨ao,c,rfl⟩:=rowI_zero h h0
  refine(markIn_nil ao c k w).mono ?_;rintro e w'⟨rfl,rfl⟩;exact⟨ret_int (by rw[h0];simp),Fr.refl _ _,.inl h0⟩
 ·obtain⟨g,c,rfl⟩:=row_some2 h (by omega)
  refine(markIn_at g xs.length c _ k w hlen k0 k1 (rowI_arr h)).mono ?_;rintro e w'⟨rfl,hf,ha⟩;exact⟨rfl,hf.mono (fun q e=>by rw[e];rfl),.inr ⟨g,c,rfl,ha⟩⟩
theorem heldIn_row{base:Nat}{v:Value}(xs:List NV)(k:Int)(w w0:World)(hlen:xs.length<=1048576)(k0:0<=k)(k1:k<=1125899906842624)(h:w0.ownsRow base 56 6 v xs.length (ci xs))(hm:xs.length=0∨∃g c,v=.slice (some ⟨g,0,none⟩) xs.length c/\Arr w g (xs.length*6) (markL k)):
 Calls Tryd.prog 55 #[v,.int .i64 k] w fun e w'=>e=.returned (.int .i64 (k+6*(xs.length:Int)))/\w'=w:=by
 rcases hm with h0|⟨g,c,rfl,ha⟩
 ·obtain⟨ao,c,rfl⟩:=rowI_zero h h0
  refine(heldIn_nil ao c k w).mono ?_;rintro e w'⟨rfl,rfl⟩;exact⟨ret_int (by rw[h0];simp),rfl⟩
 ·exact heldIn_at g xs.length c k w hlen k0 k1 ha
theorem row_fr{S:Nat->Prop}{w w':World}{base e size n:Nat}{v:Value}{xs:List Value}(h:w.ownsRow base e size v n xs)(f:Fr S w w')(hn:∀q,v.ownBlock=some q->¬S q):w'.ownsRow base e size v n xs:=by
 refine⟨h.1,?_⟩;rcases h.2 with h'|⟨g,cap,cur,h',h1,h2,h3⟩
 ·exact .inl h'
 ·exact .inr ⟨g,cap,cur,h',h1,(f.block g (Array.getElem?_eq_some_iff.1 h2).1 (hn g (by rw[h'];rfl))).trans h2,h3⟩
theorem rdA_len(d:Int)(t:List UInt8):(rdA d t).2.2.length<=100000:=by
 unfold rdA;split
 ·simp
 ·split
  ·simp
  ·split
   ·simp
   ·split
    ·rename_i h
     unfold flatOK at h;simp only[Bool.and_eq_true,decide_eq_true_eq]at h;show(prgI _ _).length<=_;omega
    ·simp
theorem Fr.below2{S:Nat->Prop}{w w' w2:World}(h:Fr S w w')(k:Below w'.heap.size w' w2):Fr S w w2:=h.trans (.of_below k)
theorem obj_fr{S:Nat->Prop}{w w':World}{p:Nat}{o:Obj}(h:w.heap[p]?=some o)(f:Fr S w w')(hn:¬S p):w'.heap[p]?=some o:=(f.block p (Array.getElem?_eq_some_iff.1 h).1 hn).trans h
theorem obj_below{w w':World}{p:Nat}{o:Obj}(h:w.heap[p]?=some o)(f:Below w.heap.size w w'):w'.heap[p]?=some o:=(f.block p (Array.getElem?_eq_some_iff.1 h).1).trans h
theorem obj_ne{w:World}{p B e1 e2 s n:Nat}{cs:Array Value}{v:Value}{xs:List Value}(h1:w.heap[p]?=some (.cells cs e1))(h2:w.ownsRow B e2 s v n xs)(he:e1≠e2):v.ownBlock≠some p:=by
 rcases h2.2 with⟨h,_⟩|⟨g,cap,cur,h,_,h4,_⟩
 ·rw[h];intro e;cases e
 ·rw[h]
  intro e;have e':g=p:=by simpa[Value.ownBlock]using e
  rw[e',h1]at h4;simp only[Option.some.injEq,Obj.cells.injEq]at h4;exact he h4.2.1
theorem eqAsmRes_same{b1 b2:Nat}{v v':Value}(er ln:Int)(xs:List NV)(w:World)(hlen:xs.length<=1048576)(h:w.ownsRow b1 56 6 v xs.length (ci xs))(h':w.ownsRow b2 56 6 v' xs.length (ci xs)):
 Calls Tryd.prog 24 #[.agg #[.int .i64 er,.int .i64 ln,v],.agg #[.int .i64 er,.int .i64 ln,v']] w fun e w'=>e=.returned (.bool true)/\Below w.heap.size w w':=by
 obtain⟨ao,c,rfl⟩:=row_sl h;obtain⟨ao',c',rfl⟩:=row_sl h';have HB:Hid (∀x y,Below w.heap.size w ((w.alloc x).alloc y)):=fun x y=>((Below.refl _ _).alloc (Nat.le_refl _) x).alloc (by simp) y
 have HH:Hid (∀x y,((w.alloc x).alloc y).ownsRow b1 56 6 (.slice ao xs.length c) xs.length (ci xs)):=fun x y=>row_belowB h (HB.out x y)
 have HH':Hid (∀x y,((w.alloc x).alloc y).ownsRow b2 56 6 (.slice ao' xs.length c') xs.length (ci xs)):=fun x y=>row_belowB h' (HB.out x y)
 clear h h';go_enter Tryd.func24,Tryd.ntmps24;go_wp2_with fail;refine(eqInsS_rows xs _ hlen (HH.out _ _) (HH'.out _ _)).mono ?_;rintro e w1⟨rfl,hb⟩;go_wp2;go_ret;exact⟨rfl,(HB.out _ _).trans (hb.mono (HB.out _ _).size)⟩
theorem markAsmRes_row{base:Nat}{v:Value}(er ln:Int)(xs:List NV)(k:Int)(w:World)(hlen:xs.length<=1048576)(k0:0<=k)(k1:k<=1125899906842624)(h:w.ownsRow base 56 6 v xs.length (ci xs)):
 Calls Tryd.prog 25 #[.agg #[.int .i64 er,.int .i64 ln,v],.int .i64 k] w fun e w'=>e=.returned (.int .i64 (k+6*(xs.length:Int)))/\Fr (fun q=>v.ownBlock=some q) w w'/\(xs.length=0∨∃g c,v=.slice (some ⟨g,0,none⟩) xs.length c/\Arr w' g (xs.length*6) (markL k)):=by
 obtain⟨ao,c,rfl⟩:=row_sl h;have HB:Hid (∀x,Below w.heap.size w (w.alloc x)):=fun x=>(Below.refl _ _).alloc (Nat.le_refl _) x
 have HH:Hid (∀x,(w.alloc x).ownsRow base 56 6 (.slice ao xs.length c) xs.length (ci xs)):=fun x=>row_belowB h (HB.out x)
 clear h;go_enter Tryd.func25,Tryd.ntmps25;go_wp2_with fail;refine(markIn_row xs k _ hlen k0 k1 (HH.out _)).mono ?_;rintro e w1⟨rfl,hf,hm⟩;go_wp2;go_ret;exact⟨rfl,(Fr.of_below (HB.out _)).trans hf,hm⟩
theorem heldAsmRes_row{base:Nat}{v:Value}(er ln:Int)(xs:List NV)(k:Int)(w w0:World)(hlen:xs.length<=1048576)(k0:0<=k)(k1:k<=1125899906842624)(h:w0.ownsRow base 56 6 v xs.length (ci xs))(hm:xs.length=0∨∃g c,v=.slice (some ⟨g,0,none⟩) xs.length c/\Arr w g (xs.length*6) (markL k)):
 Calls Tryd.prog 26 #[.agg #[.int .i64 er,.int .i64 ln,v],.int .i64 k] w fun e w'=>e=.returned (.int .i64 (k+6*(xs.length:Int)))/\Below w.heap.size w w':=by
 obtain⟨ao,c,rfl⟩:=row_sl h;have HB:Hid (∀x,Below w.heap.size w (w.alloc x)):=fun x=>(Below.refl _ _).alloc (Nat.le_refl _) x
 have HM:Hid (∀x,xs.length=0∨∃g c',Value.slice ao xs.length c=.slice (some ⟨g,0,none⟩) xs.length c'/\Arr (w.alloc x) g (xs.length*6) (markL k)):=fun x=>hm.imp id (fun⟨g,c',e,ha⟩=>⟨g,c',e,ha.below (HB.out x) ha.lt⟩)
 have HO:Hid (w0.ownsRow base 56 6 (.slice ao xs.length c) xs.length (ci xs)):=h;clear h hm;go_enter Tryd.func26,Tryd.ntmps26;go_wp2_with fail;refine(heldIn_row xs k _ w0 hlen k0 k1 HO.out (HM.out _)).mono ?_;rintro e w1⟨rfl,hw⟩;obtain⟨kk,hkk⟩:∃y:Int,k+6*(xs.length:Int)=y:=⟨_,rfl⟩
 have HKK:Hid (k+6*(xs.length:Int)=kk):=hkk;rw[hkk,hw];have nk:¬kk<0:=by omega
 clear hkk hw;go_wp2;go_ret;exact⟨ret_int HKK.out.symm,HB.out _⟩
def byL(n:Nat)(R:Nat->Int):List UInt8:=(List.range n).map fun i=>UInt8.ofNat (R i).toNat
theorem byL_len(n:Nat)(R:Nat->Int):(byL n R).length=n:=by simp[byL]
theorem byL_at{n:Nat}{R:Nat->Int}{i:Nat}(hi:i<n)(h0:0<=R i)(h1:R i<=255):bF (byL n R) i=R i:=by
 unfold bF byL;rw[List.getD_eq_getElem?_getD,List.getElem?_map,List.getElem?_range hi];simp;omega
end Go.Proofs.YtdbhgaegblclaaaDoor
