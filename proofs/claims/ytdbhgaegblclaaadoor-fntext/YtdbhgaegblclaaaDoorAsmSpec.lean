import Derived.Test.YtdbhgaegblclaaaDoorAsmShow
import Derived.Test.YtdbhgaegblclaaaDoorOfFlatAny
import Derived.Lib.AppendIntMem
import Derived.Maps.AppendAt
import Derived.OwnWalk
import Derived.Lib.BufferWrite
import Derived.Deep.Onto
set_option maxHeartbeats 1600000
set_option maxRecDepth 20000
namespace Go.Proofs.YtdbhgaegblclaaaDoor
open Go.RowKit
def reachB(F:Nat->Nat->Int)(i:Nat)(k:Nat):Bool:=(List.range k).any fun j=>jumpB (F j 0)&&(F j 4==(i:Int))
theorem reach_step(F:Nat->Nat->Int)(i k:Nat):reachB F i (k+1)=(reachB F i k||(jumpB (F k 0)&&(F k 4==(i:Int)))):=by
 unfold reachB;rw[List.range_succ,List.any_append];simp
def lineAt(d:Int)(len:Nat)(F:Nat->Nat->Int)(i:Nat):List UInt8:=
 (if reachB F i len=true then(labS d i++⟨#[10]⟩).data.toList else[])++(lineS d (F i 0) (F i 1) (F i 2) (F i 3) (F i 4) (F i 5)++⟨#[10]⟩).data.toList
def txt(d:Int)(len:Nat)(F:Nat->Nat->Int):Nat->List UInt8
 |0=>[]
 |k+1=>txt d len F k++lineAt d len F k
theorem row_belowB{w w':World}{base e size n:Nat}{v:Value}{xs:List Value}(h:w.ownsRow base e size v n xs)(hb:Below w.heap.size w w'):w'.ownsRow base e size v n xs:=by
 refine⟨h.1,?_⟩;rcases h.2 with h|⟨g,cap,cur,rfl,h1,h2,h3⟩
 ·exact .inl h
 ·have hg:g<w.heap.size:=(Array.getElem?_eq_some_iff.1 h2).1
  exact .inr ⟨g,cap,cur,rfl,h1,(hb.block g hg).trans h2,h3⟩
theorem info_u8:(Tryd.prog.info? 5).map (fun i=>(i.zero,i.size,i.bytes))=some (some (.int .u8 0),1,1):=by kernel_rfl
theorem heap_alloc_newB(w:World)(o:Obj):(w.alloc o).heap[w.heap.size]?=some o:=by simp only[World.alloc];simp
theorem conv_str(W:World)(s:ByteArray):∃cp W2,(convert 9 22 (.string s)).run Tryd.prog W=.ok (.slice (some ⟨W.heap.size,0,none⟩) s.size cp) W2/\Below W.heap.size W W2/\∀j u,(Lib.byteCells s.data.toList)[j]?=some u->W2.cell? ((⟨W.heap.size,0,none⟩:Addr).add j)=some u:=by
 refine⟨_,_,run_bytes_of_string W 9 22 5 s Tryd.underlying9 Tryd.underlying22 Tryd.underlying5,(Below.refl _ _).drew.alloc (Nat.le_refl _) _,?_⟩;intro j u hj;have hjl:j<s.data.size:=by
  have:=(List.getElem?_eq_some_iff.1 hj).1;simpa[Lib.byteCells]using this
 have e:u=.int .u8 (s.data[j].toNat:Int):=by
  simp only[Lib.byteCells,List.getElem?_map,Array.getElem?_toList,Array.getElem?_eq_getElem hjl,Option.map_some,Option.some.injEq]at hj;exact hj.symm
 have h1:=bytesRow_at s (grownCap W s.size 0 5) j hjl;rw[e];have h2:=heap_alloc_newB W.drew (.cells (bytesRow s (grownCap W s.size 0 5)) 5 ((bytesRow s (grownCap W s.size 0 5)).size,(bytesRow s (grownCap W s.size 0 5)).size+1));have h3:W.drew.heap.size=W.heap.size:=rfl;rw[h3]at h2;have h4:(⟨W.heap.size,0,none⟩:Addr).add j=⟨W.heap.size,j,none⟩:=by unfold Addr.add;split<;>simp_all
 rw[h4];unfold World.cell?;simp only[h2];exact h1
theorem labS_size(d:Int)(n:Nat):(labS d n).size<=n+6:=by
 have:=digS_size n;unfold labS;simp only[ByteArray.size_append];have h1:(if d=0 then(⟨#[46,76]⟩:ByteArray)else⟨#[76]⟩).size<=2:=ite_size (by decide) (by decide);have h2:(⟨#[58]⟩:ByteArray).size=1:=rfl;omega
theorem flat_parts{len:Nat}{F:Nat->Nat->Int}(h:flatOK len F=true):1<=len/\len<=2000/\∀i,i<len->flatAt len F i=true:=by
 unfold flatOK at h;simp only[Bool.and_eq_true,decide_eq_true_eq,List.all_eq_true,List.mem_range]at h;exact⟨h.1.1.1,h.1.1.2,fun i hi=>h.1.2 i hi⟩
theorem field_bound{u:Bool}{v lo hi:Int}(h:fieldB u v lo hi=true)(h1: -1000000<=lo)(h2:hi<=1000000):v.natAbs<1000001:=by
 unfold fieldB inB at h;split at h
 ·simp only[Bool.and_eq_true,decide_eq_true_eq]at h;omega
 ·rw[beq_iff_eq]at h;omega
theorem immLo_ge(op:Int): -1000000<=immLo op:=by unfold immLo;split<;>omega
theorem immHi_le(op:Int):immHi op<=1000000:=by unfold immHi;repeat' split
                                               all_goals omega
theorem ins_parts{len:Nat}{F:Nat->Nat->Int}{i:Nat}(h:flatAt len F i=true):1<=F i 0/\F i 0<=34/\(F i 1).natAbs<1000001/\(F i 2).natAbs<1000001/\(F i 3).natAbs<1000001/\(F i 4).natAbs<1000001/\(F i 5).natAbs<1000001:=by
 unfold flatAt insOK implIns at h;simp only[Bool.and_eq_true]at h;obtain⟨⟨⟨⟨⟨⟨h0,h1⟩,h2⟩,h3⟩,h4⟩,h5⟩,_⟩:=h;unfold inB at h0;simp only[Bool.and_eq_true,decide_eq_true_eq]at h0;exact⟨h0.1,h0.2,field_bound h1 (by omega) (by omega),field_bound h2 (by omega) (by omega),field_bound h3 (by omega) (by omega),field_bound h4 (immLo_ge _) (immHi_le _),field_bound h5 (by omega) (by omega)⟩
theorem lineS_size(d op dd a b i h:Int)(hd:dd.natAbs<1000001)(ha:a.natAbs<1000001)(hb:b.natAbs<1000001)(hi:i.natAbs<1000001)(hh:h.natAbs<1000001):(lineS d op dd a b i h).size<=31000000:=by
 have h1:=rend_size _ _ (rb_size dd a b i h hd ha hb hi hh) (shpS d op).data.toList (begS d op);have h2:=shpS_size d op;have h3:(begS d op).size<=12:=by
  have:=nmS_size op;unfold begS;apply ite_size
  ·omega
  ·simp only[ByteArray.size_append];show(nmS op).size+1<=12;omega
 have h4:(shpS d op).data.toList.length<=30:=h2;have h5:=Nat.mul_le_mul_right 1000003 h4;show(rendS _ _ _).size<=_;omega
theorem bc_len(s:ByteArray):(Lib.byteCells s.data.toList).length=s.size:=by simp[Lib.byteCells]
theorem app_len(l m:List UInt8):Lib.byteCells l++Lib.byteCells m=Lib.byteCells (l++m):=by simp[Lib.byteCells]
theorem specPrint_ok(b off len cap:Nat)(F:Nat->Nat->Int)(d:Int)(w:World)(hm:len<=1048576)(hat:At w b off (len*6) (insF F))(hok:flatOK len F=true)(hd:d=0∨d=1):
 Calls Tryd.prog 11 #[.slice (some ⟨b,off,none⟩) len cap,.int .i64 d] w fun e w'=>∃v n,e=.returned v/\w'.ownsRow w.heap.size 5 1 v n (Lib.byteCells (txt d len F len))/\Below w.heap.size w w':=by
 have hb:=hat.lt;have HA:Hid (At w b off (len*6) (insF F)):=hat;have HOK:Hid (flatOK len F=true):=hok;have HD:Hid (d=0∨d=1):=hd;have hin:inB d 0 1=true:=by rcases hd with rfl|rfl<;>rfl
 have hl2:=(flat_parts hok).2.1;clear hat hok hd;go_enter Tryd.func11,Tryd.ntmps11;go_upto_region 2 with fail;obtain⟨u,hu,hbu,hou⟩:∃v,w.alloc (.cells #[] 5)=v/\Below w.heap.size w v/\v.ownsRow w.heap.size 5 1 (.slice (some ⟨w.heap.size,0,none⟩) 0 0) 0 []:=⟨_,rfl,(Below.refl _ _).alloc (Nat.le_refl _) _,rfl,Or.inr ⟨_,0,#[],rfl,Nat.le_refl _,heap_alloc_newB w _,Nat.le_refl _,Nat.zero_le _,rfl,rfl⟩⟩
 rw[hu];clear hu;have HO:Hid (u.ownsRow w.heap.size 5 1 (.slice (some ⟨w.heap.size,0,none⟩) 0 0) 0 []):=hou;go_wp2_with(first|(go_at_call 9;refine(specFlat_any b off len cap F _ hm (HA.out.below hbu hb)).mono ?_;rintro e w1⟨rfl,hb1⟩;rw[HOK.out])|(go_at_call 39;refine(in_any _ _ _ _).mono ?_;rintro e w2⟨rfl,hw2⟩;rw[hw2,hin];clear hw2));have hbw:Below w.heap.size w w1:=hbu.trans (hb1.mono hbu.size);have HO1:Hid (w1.ownsRow w.heap.size 5 1 (.slice (some ⟨w.heap.size,0,none⟩) 0 0) 0 []):=row_belowB HO.out hb1;clear hbu hb1 hou HO u;go_loopw [5,6,7,8](fun v j _ _ wr=>∃k n:Nat,k<=len/\n<=k*31004000/\j=.int .i64 k/\wr.ownsRow w.heap.size 5 1 v n (Lib.byteCells (txt d len F k))/\Below w.heap.size w wr)(fun _ j _ _ _=>len-(intOf j).toNat)
 case atStart=>exact⟨0,0,Nat.zero_le _,Nat.zero_le _,rfl,HO1.out,hbw⟩
 case round=>
  obtain⟨k,n,hk,hnk,rfl,hown,hbr⟩:=hrel;have HOW:Hid (wr.ownsRow w.heap.size 5 1 u5 n (Lib.byteCells (txt d len F k))):=hown;have HNK:Hid (n<=k*31004000):=hnk;clear hown hnk;by_cases hlt:k<len
  rotate_left
  ·obtain rfl:k=len:=by omega
   go_wp2_with fail;go_ret;exact⟨u5,n,rfl,HOW.out,hbr⟩
  have hl1:(k:Int)<len:=by omega
  go_wp2_with fail;go_loopw [7,8](fun t j wq=>∃m:Nat,m<=len/\j=.int .i64 m/\t=.bool (reachB F k m)/\wq=wr)(fun _ j _=>len-(intOf j).toNat)
  case atStart=>exact⟨0,Nat.zero_le _,rfl,rfl,rfl⟩
  case round=>
   obtain⟨m,hm1,rfl,rfl,hwq⟩:=hrel;subst hwq;by_cases hmt:m<len
   ·have hm2:(m:Int)<len:=by omega
    have g0:=(hbr.cell (p:=⟨b,off+m*6,none⟩) hb).trans ((HA.out.cell (i:=m*6+0) (by omega)).trans (congrArg some (insF_at F m 0 (by omega))));have g4:=(hbr.cell (p:=⟨b,off+m*6+4,none⟩) hb).trans ((HA.out.cell (i:=m*6+4) (by omega)).trans (congrArg some (insF_at F m 4 (by omega))));have RS:Hid (reachB F k (m+1)=(reachB F k m||(jumpB (F m 0)&&(F m 4==(k:Int))))):=reach_step F k m;cases hr:reachB F k m with
    |true=>
     go_wp2_with fail;go_roundw
     case rel=>exact⟨m+1,by omega,by go_num,by rw[RS.out,hr];rfl,trivial⟩
     case measure=>simp[intOf];omega
    |false=>
     cases hj:jumpB (F m 0)with
     |true=>
      go_wp2_with(first|(go_at_call 36;refine(jump_any _ _).mono ?_;rintro e w2⟨rfl,hw2⟩;rw[hw2,hj];clear hw2));go_roundw
      case rel=>exact⟨m+1,by omega,by go_num,by rw[RS.out,hr,hj];simp,trivial⟩
      case measure=>simp[intOf];omega
     |false=>
      go_wp2_with(first|(go_at_call 36;refine(jump_any _ _).mono ?_;rintro e w2⟨rfl,hw2⟩;rw[hw2,hj];clear hw2));go_roundw
      case rel=>exact⟨m+1,by omega,by go_num,by rw[RS.out,hr,hj];rfl,trivial⟩
      case measure=>simp[intOf];omega
   obtain rfl:m=len:=by omega
   obtain⟨iS,hi1,hi2,hi3,hi4⟩:∃i,Tryd.prog.info? 5=some i/\i.zero=some (.int .u8 0)/\i.size=1/\i.bytes=1:=by
    have:=info_u8;rcases hh:Tryd.prog.info? 5 with _|i
    ·rw[hh]at this;simp at this
    ·rw[hh]at this;simp at this;exact⟨i,rfl,this⟩
   have HI:Hid (Tryd.prog.info? 5=some iS/\iS.zero=some (.int .u8 0)/\iS.size=1/\iS.bytes=1):=⟨hi1,hi2,hi3,hi4⟩
   clear hi1 hi2 hi3 hi4;go_upto_if 49 with fail;go_cut [5,7,49](fun v5 _ _ wx=>∃n':Nat,n'<=n+3000/\wx.ownsRow w.heap.size 5 1 v5 n' (Lib.byteCells (txt d m F k++(if reachB F k m=true then(labS d k++⟨#[10]⟩).data.toList else[])))/\Below w.heap.size w wx)
   case first=>
    cases hr:reachB F k m with
    |false=>
     go_wp2_with fail;go_meet;exact⟨n,by omega,by simpa[hr]using HOW.out,hbr⟩
    |true=>
     have hlz:=labS_size d k;have hz1:¬9223372036854775807<(labS d k).size+1:=by omega
     go_wp2_with fail;refine(label_any k d (by omega) _).mono ?_;rintro e w2⟨rfl,hb2⟩;obtain⟨cp,w3,hcv,hb3,hcl⟩:=conv_str w2 (labS d k++⟨#[10]⟩);have hB2:Below w.heap.size w w2:=hbr.trans (hb2.mono hbr.size);have hB3:Below w.heap.size w w3:=hB2.trans (hb3.mono hB2.size);have O3:Hid (w3.ownsRow w.heap.size 5 1 u5 n (Lib.byteCells (txt d m F k))):=row_belowB (row_belowB HOW.out hb2) hb3;have HCL:Hid (∀j u,(Lib.byteCells (labS d k++⟨#[10]⟩).data.toList)[j]?=some u->w3.cell? ((⟨w2.heap.size,0,none⟩:Addr).add j)=some u):=hcl;have hls:(labS d k++⟨#[10]⟩).size=(labS d k).size+1:=by simp only[ByteArray.size_append];rfl
     have HLS:Hid ((labS d k++⟨#[10]⟩).size=(labS d k).size+1):=hls;clear hcl hls;go_wp2_with(first|(at_builtin;refine wpList_append_own_at _ rfl _ _ 22 rfl w.heap.size 5 iS _ 1 1 Tryd.underlying22 HI.out.1 HI.out.2.1 HI.out.2.2.1 HI.out.2.2.2 rfl (by decide) u5 n _ rfl O3.out ⟨w2.heap.size,0,none⟩ _ _ _ rfl ?c1 HCL.out ?c2 ?c3 ?c4 hB3.size ?_))
     case c1=>rw[bc_len,HLS.out];omega
     case c2=>exact Lib.byteCells_one _
     case c3=>have:=HNK.out;unfold maxLen;omega
     case c4=>have:=HNK.out;omega
     intro v' w4 hown4 hgrow _ _;have hB4:Below w.heap.size w w4:=hB3.grown hgrow hB3.size (fun k hk=>(O3.out.lt k hk).1);have O4:Hid (w4.ownsRow w.heap.size 5 1 v' (n+((labS d k).size+1)) (Lib.byteCells (txt d m F k)++Lib.byteCells ((labS d k).data.toList++[10]))):=hown4;clear hown4 hgrow;go_wp2_with fail;go_meet;refine⟨n+((labS d k).size+1),by omega,?_,hB4⟩;have:=O4.out;rw[app_len]at this;simpa[hr]using this
   case rest=>
    obtain⟨n',hn',hown',hbx⟩:=hcut;obtain⟨pre,hpre⟩:∃p,(if reachB F k m=true then(labS d k++⟨#[10]⟩).data.toList else[])=p:=⟨_,rfl⟩
    rw[hpre]at hown';have HPRE:Hid ((if reachB F k m=true then(labS d k++⟨#[10]⟩).data.toList else[])=pre):=hpre;clear hpre;have HN':Hid (n'<=n+3000):=hn';have OX:Hid (wc.ownsRow w.heap.size 5 1 u5 n' (Lib.byteCells (txt d m F k++pre))):=hown';clear hn' hown';have g0:=(hbx.cell (p:=⟨b,off+k*6,none⟩) hb).trans ((HA.out.cell (i:=k*6+0) (by omega)).trans (congrArg some (insF_at F k 0 (by omega))));have g1:=(hbx.cell (p:=⟨b,off+k*6+1,none⟩) hb).trans ((HA.out.cell (i:=k*6+1) (by omega)).trans (congrArg some (insF_at F k 1 (by omega))));have g2:=(hbx.cell (p:=⟨b,off+k*6+2,none⟩) hb).trans ((HA.out.cell (i:=k*6+2) (by omega)).trans (congrArg some (insF_at F k 2 (by omega))));have g3:=(hbx.cell (p:=⟨b,off+k*6+3,none⟩) hb).trans ((HA.out.cell (i:=k*6+3) (by omega)).trans (congrArg some (insF_at F k 3 (by omega))));have g4:=(hbx.cell (p:=⟨b,off+k*6+4,none⟩) hb).trans ((HA.out.cell (i:=k*6+4) (by omega)).trans (congrArg some (insF_at F k 4 (by omega))));have g5:=(hbx.cell (p:=⟨b,off+k*6+5,none⟩) hb).trans ((HA.out.cell (i:=k*6+5) (by omega)).trans (congrArg some (insF_at F k 5 (by omega))));have hpt:=ins_parts ((flat_parts HOK.out).2.2 k hlt);have HPT:=hpt;obtain⟨p1,p2,q1,q2,q3,q4,q5⟩:=hpt;have hLz:=lineS_size d (F k 0) (F k 1) (F k 2) (F k 3) (F k 4) (F k 5) q1 q2 q3 q4 q5;have SH:Hid (∀w,Calls Tryd.prog 41 #[.agg #[.int .i64 (F k 0),.int .i64 (F k 1),.int .i64 (F k 2),.int .i64 (F k 3),.int .i64 (F k 4),.int .i64 (F k 5)],.int .i64 d] w fun e w'=>e=.returned (.string (lineS d (F k 0) (F k 1) (F k 2) (F k 3) (F k 4) (F k 5)))/\Below w.heap.size w w'):=fun w=>show_any _ _ _ _ _ _ _ w p1 p2 HD.out q1 q2 q3 q4 q5
    obtain⟨L,hL⟩:∃L,lineS d (F k 0) (F k 1) (F k 2) (F k 3) (F k 4) (F k 5)=L:=⟨_,rfl⟩
    have HL:Hid (lineS d (F k 0) (F k 1) (F k 2) (F k 3) (F k 4) (F k 5)=L):=hL;rw[hL]at SH hLz;have HLZ:Hid (L.size<=31000000):=hLz;have hz1:¬9223372036854775807<L.size+1:=by omega
    clear hL hLz HPT p1 p2 q1 q2 q3 q4 q5;go_wp2_with fail;refine(SH.out _).mono ?_;rintro e w2⟨rfl,hb2⟩;clear g0 g1 g2 g3 g4 g5;obtain⟨cp,w3,hcv,hb3,hcl⟩:=conv_str w2 (L++⟨#[10]⟩);have hB2:Below w.heap.size w w2:=hbx.trans (hb2.mono hbx.size);have hB3:Below w.heap.size w w3:=hB2.trans (hb3.mono hB2.size);have O3:Hid (w3.ownsRow w.heap.size 5 1 u5 n' (Lib.byteCells (txt d m F k++pre))):=row_belowB (row_belowB OX.out hb2) hb3;have HCL:Hid (∀j u,(Lib.byteCells (L++⟨#[10]⟩).data.toList)[j]?=some u->w3.cell? ((⟨w2.heap.size,0,none⟩:Addr).add j)=some u):=hcl;have HLS:Hid ((L++⟨#[10]⟩:ByteArray).size=L.size+1):=by show _=_;simp only[ByteArray.size_append];rfl
    clear hcl;go_wp2_with(first|(at_builtin;refine wpList_append_own_at _ rfl _ _ 22 rfl w.heap.size 5 iS _ 1 1 Tryd.underlying22 HI.out.1 HI.out.2.1 HI.out.2.2.1 HI.out.2.2.2 rfl (by decide) u5 n' _ rfl O3.out ⟨w2.heap.size,0,none⟩ _ _ _ rfl ?c1 HCL.out ?c2 ?c3 ?c4 hB3.size ?_))
    case c1=>rw[bc_len,HLS.out];omega
    case c2=>exact Lib.byteCells_one _
    case c3=>have:=HNK.out;have:=HN'.out;have:=HLZ.out;unfold maxLen;omega
    case c4=>have:=HNK.out;have:=HN'.out;have:=HLZ.out;omega
    intro v' w4 hown4 hgrow _ _;have hB4:Below w.heap.size w w4:=hB3.grown hgrow hB3.size (fun k hk=>(O3.out.lt k hk).1);have O4:Hid (w4.ownsRow w.heap.size 5 1 v' (n'+(L.size+1)) (Lib.byteCells (txt d m F k++pre)++Lib.byteCells (L.data.toList++[10]))):=hown4;clear hown4 hgrow;go_wp2_with fail;go_roundw
    case rel=>
     refine⟨k+1,n'+(L.size+1),by omega,?_,by go_num,?_,hB4⟩
     ·have:=HNK.out;have:=HN'.out;have:=HLZ.out;omega
     ·have:=O4.out
      rw[app_len]at this;show World.ownsRow _ _ _ _ _ _ (Lib.byteCells (txt d m F k++lineAt d m F k));unfold lineAt;rw[HL.out,HPRE.out,<-List.append_assoc];simpa using this
    case measure=>simp[intOf];omega
theorem specPrint_bad(b off len cap:Nat)(F:Nat->Nat->Int)(d:Int)(w:World)(hm:len<=1048576)(hat:At w b off (len*6) (insF F))(hok:(flatOK len F&&inB d 0 1)=false):
 Calls Tryd.prog 11 #[.slice (some ⟨b,off,none⟩) len cap,.int .i64 d] w fun e w'=>∃v n,e=.returned v/\w'.ownsRow w.heap.size 5 1 v n (Lib.byteCells [])/\Below w.heap.size w w':=by
 have hb:=hat.lt;have HA:Hid (At w b off (len*6) (insF F)):=hat;clear hat;go_enter Tryd.func11,Tryd.ntmps11;go_upto_region 2 with fail;obtain⟨u,hu,hbu,hou⟩:∃v,w.alloc (.cells #[] 5)=v/\Below w.heap.size w v/\v.ownsRow w.heap.size 5 1 (.slice (some ⟨w.heap.size,0,none⟩) 0 0) 0 []:=⟨_,rfl,(Below.refl _ _).alloc (Nat.le_refl _) _,rfl,Or.inr ⟨_,0,#[],rfl,Nat.le_refl _,heap_alloc_newB w _,Nat.le_refl _,Nat.zero_le _,rfl,rfl⟩⟩
 rw[hu];clear hu;have HO:Hid (u.ownsRow w.heap.size 5 1 (.slice (some ⟨w.heap.size,0,none⟩) 0 0) 0 []):=hou;clear hou;cases hf:flatOK len F with
 |false=>
  clear hok;go_wp2_with(first|(go_at_call 9;refine(specFlat_any b off len cap F _ hm (HA.out.below hbu hb)).mono ?_;rintro e w1⟨rfl,hb1⟩;rw[hf]));go_ret;exact⟨_,0,rfl,row_belowB HO.out hb1,hbu.trans (hb1.mono hbu.size)⟩
 |true=>
  have hin:inB d 0 1=false:=by simpa[hf]using hok
  clear hok;go_wp2_with(first|(go_at_call 9;refine(specFlat_any b off len cap F _ hm (HA.out.below hbu hb)).mono ?_;rintro e w1⟨rfl,hb1⟩;rw[hf])|(go_at_call 39;refine(in_any _ _ _ _).mono ?_;rintro e w2⟨rfl,hw2⟩;rw[hw2,hin];clear hw2));go_ret;exact⟨_,0,rfl,row_belowB HO.out hb1,hbu.trans (hb1.mono hbu.size)⟩
def prT(d:Int)(len:Nat)(F:Nat->Nat->Int):List UInt8:=if(flatOK len F&&inB d 0 1)=true then txt d len F len else[]
theorem specPrint_any(b off len cap:Nat)(F:Nat->Nat->Int)(d:Int)(w:World)(hm:len<=1048576)(hat:At w b off (len*6) (insF F)):
 Calls Tryd.prog 11 #[.slice (some ⟨b,off,none⟩) len cap,.int .i64 d] w fun e w'=>∃v n,e=.returned v/\w'.ownsRow w.heap.size 5 1 v n (Lib.byteCells (prT d len F))/\Below w.heap.size w w':=by
 cases h:(flatOK len F&&inB d 0 1)with
 |false=>rw[prT,if_neg (by simp[h])];exact specPrint_bad b off len cap F d w hm hat h
 |true=>
  rw[prT,if_pos h];rw[Bool.and_eq_true]at h;have h2:=h.2;unfold inB at h2;simp only[Bool.and_eq_true,decide_eq_true_eq]at h2;exact specPrint_ok b off len cap F d w hm hat h.1 (by omega)
end Go.Proofs.YtdbhgaegblclaaaDoor
