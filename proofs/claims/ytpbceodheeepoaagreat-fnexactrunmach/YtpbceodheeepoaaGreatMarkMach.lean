import Derived.Test.YtpbceodheeepoaaGreatMarkLists
set_option maxHeartbeats 1000000
namespace Go.Proofs.YtpbceodheeepoaaGreat
open Go.RowKit
def sumK(Hq:Nat->HeapV)(k:Int):Nat->Int
 |0=>k
 |i+1=>sumK Hq k i+2+(Hq i).len
def mk3(x:Int):Bool:=x%3==0
def markH(Hq:Nat->HeapV)(k:Int)(i:Nat):HeapV:={Hq i with base:=sumK Hq k i,wr:=mk3 (sumK Hq k i+1)}
def mixH(Hq:Nat->HeapV)(k:Int)(q i:Nat):HeapV:=if i<q then markH Hq k i else Hq i
theorem sumK_bound(Hq:Nat->HeapV)(k:Int):∀q,(∀i,i<q->(Hq i).len<=1048576)->k<=sumK Hq k q/\sumK Hq k q<=k+q*1048578
 |0,_=>by simp[sumK]
 |q+1,h=>by
  have:=sumK_bound Hq k q fun i hi=>h i (by omega)
  have:=h q (by omega);unfold sumK;omega
def BlkD(Hq:Nat->HeapV)(i q:Nat):Prop:=Blk (Hq i).ao (Hq i).len q
def SH(b n:Nat)(Hq:Nat->HeapV)(q:Nat):Prop:=q=b∨∃i,i<n/\BlkD Hq i q
def datK(Hq:Nat->HeapV)(k:Int)(i:Nat):Nat->Value:=numF .u8 fun j=>(sumK Hq k i+2+j)%256
theorem markH_at(b n cap:Nat)(Hq:Nat->HeapV)(k:Int)(w:World)(hn:n<=1048576)(hl:∀i,i<n->(Hq i).len<=1048576)(k0:0<=k)(k1:k<=16777216)(h:Arr w b (n*3) (heapF Hq))
 (hd:∀i,i<n->∃f,WrR w (Hq i).ao (Hq i).len f)(hb:∀i,i<n->∀q,BlkD Hq i q->q≠b)(hdd:∀i j,i<n->j<n->i≠j->∀q,BlkD Hq i q->¬BlkD Hq j q):
 Calls Tryz.prog 52 #[.slice (some ⟨b,0,none⟩) n cap,.int .i64 k] w fun e w'=>e=.returned (.int .i64 (sumK Hq k n))/\Fr (SH b n Hq) w w'/\Arr w' b (n*3) (heapF (markH Hq k))/\∀i,i<n->WrR w' (Hq i).ao (Hq i).len (datK Hq k i):=by
 have HA:Hid (Arr w b (n*3) (heapF Hq)):=h;have HD:Hid (∀i,i<n->∃f,WrR w (Hq i).ao (Hq i).len f):=hd;have HB:Hid (∀i,i<n->∀q,BlkD Hq i q->q≠b):=hb;have HDD:Hid (∀i j,i<n->j<n->i≠j->∀q,BlkD Hq i q->¬BlkD Hq j q):=hdd;have HL:Hid (∀i,i<n->(Hq i).len<=1048576):=hl;clear h hd hb hdd hl;go_enter Tryz.func52,Tryz.ntmps52;go_wp2;go_loopw [1,5](fun kv i wr=>∃q:Nat,q<=n/\i=.int .i64 q/\kv=.int .i64 (sumK Hq k q)/\Fr (SH b n Hq) w wr/\Arr wr b (n*3) (heapF (mixH Hq k q))/\∀i,i<n->(i<q->WrR wr (Hq i).ao (Hq i).len (datK Hq k i))/\(q<=i->∃f,WrR wr (Hq i).ao (Hq i).len f))(fun _ i _=>n-(intOf i).toNat)
 case atStart=>exact⟨0,Nat.zero_le _,rfl,rfl,Fr.refl _ _,HA.out.congr fun p hp=>heapF_congr hp fun i hi=>by simp[mixH],fun i hi=>⟨fun h=>absurd h (Nat.not_lt_zero _),fun _=>HD.out i hi⟩⟩
 case round=>
  obtain⟨q,hq,rfl,rfl,hf,ha,hdat⟩:=hrel;by_cases hlt:q<n
  ·have hlt':(q:Int)<n:=by omega
   have g0:=ha.cell (i:=q*3) (by omega);have g1:=ha.cell (i:=q*3+1) (by omega);have g2:wr.cell? ⟨b,q*3+2,none⟩=some (.slice (Hq q).ao (Hq q).len (Hq q).cap):=by
    have:=ha.cell (i:=q*3+2) (by omega);rw[heapF_2]at this;simpa[mixH]using this
   have gf:=ha.free;have hbl:=ha.lt;have hsb:=sumK_bound Hq k q fun i hi=>HL.out i (by omega)
   obtain⟨sb0,sb1⟩:=hsb;have hlq:=HL.out q hlt;have hsn:sumK Hq k (q+1)=sumK Hq k q+2+(Hq q).len:=rfl;have HSN:Hid (sumK Hq k (q+1)=sumK Hq k q+2+(Hq q).len):=hsn;have hKq:∃x,sumK Hq k q=x:=⟨_,rfl⟩
   obtain⟨x,hx⟩:=hKq;have HX:Hid (sumK Hq k q=x):=hx;rw[hx]at sb0 sb1⊢;have hw:IntKind.u64.wrap x=x:=wrap_id (by omega) (by omega);have hi0:IntKind.i64.wrap x=x:=i64_id (by omega) (by omega);have hi:IntKind.i64.wrap (x+1)=x+1:=i64_id (by omega) (by omega);have hi2:IntKind.i64.wrap (x+1+1)=x+1+1:=i64_id (by omega) (by omega);have HF:Hid (Fr (SH b n Hq) w wr):=hf;have HR:Hid (Arr wr b (n*3) (heapF (mixH Hq k q))):=ha;have HDT:Hid (∀i,i<n->(i<q->WrR wr (Hq i).ao (Hq i).len (datK Hq k i))/\(q<=i->∃f,WrR wr (Hq i).ao (Hq i).len f)):=hdat;clear hf ha hdat hsn hx;go_wp2_with fail;have F2:Fr (fun z=>z=b) wr ((wr.setCell ⟨b,q*3,none⟩ (.int .u64 x)).setCell ⟨b,q*3+1,none⟩ (.bool ((x+1)%3==0))):=((Fr.refl (fun z=>z=b) wr).set (.inl rfl) _ _).set (.inl rfl) _ _;have A2:=(HR.out.put (j:=q*3) (by omega) (.int .u64 x)).put (j:=q*3+1) (by omega) (.bool ((x+1)%3==0));generalize(wr.setCell ⟨b,q*3,none⟩ (.int .u64 x)).setCell ⟨b,q*3+1,none⟩ (.bool ((x+1)%3==0))=w2 at F2 A2⊢;have hD2:∀i,i<n->(i<q->WrR w2 (Hq i).ao (Hq i).len (datK Hq k i))/\(q<=i->∃f,WrR w2 (Hq i).ao (Hq i).len f):=fun i hi=>⟨fun h=>((HDT.out i hi).1 h).fr F2 (HB.out i hi),fun h=>by
    obtain⟨f,hf⟩:=(HDT.out i hi).2 h;exact⟨f,hf.fr F2 (HB.out i hi)⟩⟩
   obtain⟨f,hfq⟩:=(hD2 q hlt).2 (Nat.le_refl _);refine(markB_in _ _ _ f _ w2 hlq (by omega) (by omega) hfq).mono ?_;rintro e w3⟨rfl,F3,R3⟩;have A3:=F3.arr A2 (fun z=>HB.out q hlt b z rfl);have HA3:Hid (Arr w3 b (n*3) (heapF (mixH Hq k (q+1)))):=A3.congr fun p hp=>by
    by_cases e0:p=q*3
    ·subst e0
     have e5:heapF (mixH Hq k (q+1)) (q*3)=.int .u64 (mixH Hq k (q+1) q).base:=heapF_0 _ _;rw[e5];simp[mixH,markH,HX.out]
    ·by_cases e1:p=q*3+1
     ·subst e1
      have e5:heapF (mixH Hq k (q+1)) (q*3+1)=.bool (mixH Hq k (q+1) q).wr:=heapF_1 _ _;rw[e5];simp[mixH,markH,HX.out,mk3]
     ·simp only[e0,e1,if_false]
      unfold heapF;by_cases e2:p/3=q
      ·have e3:p%3=2:=by omega
       simp only[e3,e2];simp[mixH,markH]
      ·have:mixH Hq k q (p/3)=mixH Hq k (q+1) (p/3):=by
        unfold mixH;by_cases e4:p/3<q
        ·rw[if_pos e4,if_pos (by omega)]
        ·rw[if_neg e4,if_neg (by omega)]
       rw[this]
   have HF3:Hid (Fr (SH b n Hq) w w3):=(HF.out.trans (F2.mono fun z hz=>.inl hz)).trans (F3.mono fun z hz=>.inr ⟨q,hlt,hz⟩);have HD3:Hid (∀i,i<n->(i<q+1->WrR w3 (Hq i).ao (Hq i).len (datK Hq k i))/\(q+1<=i->∃f,WrR w3 (Hq i).ao (Hq i).len f)):=fun i hi=>by
    by_cases e:i=q
    ·subst e
     refine⟨fun _=>?_,fun h=>absurd h (by omega)⟩;have:datK Hq k i=numF .u8 fun j=>(x+1+1+j)%256:=by
      unfold datK;rw[HX.out];funext j
      simp only[numF];congr 1
      omega
     rw[this];exact R3
    ·refine⟨fun h=>((hD2 i hi).1 (by omega)).fr F3 (HDD.out i q hi hlt e),fun h=>?_⟩
     obtain⟨f,hf⟩:=(hD2 i hi).2 (by omega);exact⟨f,hf.fr F3 (HDD.out i q hi hlt e)⟩
   have hlt3:x+1+1+(Hq q).len=sumK Hq k (q+1):=by rw[HSN.out,HX.out];omega
   clear F2 A2 hD2 hfq F3 R3 A3 HF HR HDT g0 g1 g2 gf;rw[hlt3];go_wp2;go_roundw
   case rel=>exact⟨q+1,by omega,by go_num,rfl,HF3.out,HA3.out,HD3.out⟩
   case measure=>simp[intOf];omega
  ·obtain rfl:q=n:=by omega
   have HF:Hid (Fr (SH b q Hq) w wr):=hf;have HR:Hid (Arr wr b (q*3) (heapF (markH Hq k))):=ha.congr fun p hp=>heapF_congr hp fun i hi=>by unfold mixH;rw[if_pos hi]
   have HDT:Hid (∀i,i<q->WrR wr (Hq i).ao (Hq i).len (datK Hq k i)):=fun i hi=>(hdat i hi).1 hi
   clear hf ha hdat;go_wp2;go_ret;exact⟨rfl,HF.out,HR.out,HDT.out⟩
theorem markH_nil(ao:Option Addr)(cap:Nat)(k:Int)(w:World):
 Calls Tryz.prog 52 #[.slice ao 0 cap,.int .i64 k] w fun e w'=>e=.returned (.int .i64 k)/\w'=w:=by
 go_enter Tryz.func52,Tryz.ntmps52;go_wp2;go_loopw [1,5](fun kv i wr=>i=.int .i64 0/\kv=.int .i64 k/\wr=w)(fun _ _ _=>0)
 case atStart=>exact⟨rfl,rfl,rfl⟩
 case round=>
  obtain⟨rfl,rfl,rfl⟩:=hrel;go_wp2;go_ret;exact⟨rfl,rfl⟩
def SHo(ao:Option Addr)(n:Nat)(Hq:Nat->HeapV)(q:Nat):Prop:=Blk ao (n*3) q∨∃i,i<n/\BlkD Hq i q
theorem markH_in(ao:Option Addr)(n cap:Nat)(Hq:Nat->HeapV)(k:Int)(w:World)(hn:n<=1048576)(hl:∀i,i<n->(Hq i).len<=1048576)(k0:0<=k)(k1:k<=16777216)(h:WrR w ao (n*3) (heapF Hq))
 (hd:∀i,i<n->∃f,WrR w (Hq i).ao (Hq i).len f)(hb:∀i,i<n->∀q,BlkD Hq i q->¬Blk ao (n*3) q)(hdd:∀i j,i<n->j<n->i≠j->∀q,BlkD Hq i q->¬BlkD Hq j q):
 Calls Tryz.prog 52 #[.slice ao n cap,.int .i64 k] w fun e w'=>e=.returned (.int .i64 (sumK Hq k n))/\Fr (SHo ao n Hq) w w'/\WrR w' ao (n*3) (heapF (markH Hq k))/\∀i,i<n->WrR w' (Hq i).ao (Hq i).len (datK Hq k i):=by
 by_cases h0:n=0
 ·subst h0
  refine(markH_nil ao cap k w).mono ?_;rintro e w'⟨rfl,rfl⟩;exact⟨rfl,Fr.refl _ _,.inl rfl,fun i hi=>absurd hi (Nat.not_lt_zero _)⟩
 ·rcases h with h|⟨b,rfl,h⟩
  ·omega
  ·refine(markH_at b n cap Hq k w hn hl k0 k1 h hd (fun i hi q hq e=>hb i hi q hq ⟨by omega,by rw[e]⟩) hdd).mono ?_
   rintro e w'⟨rfl,h1,h2,h3⟩;refine⟨rfl,h1.mono (fun q hq=>?_),.inr ⟨b,rfl,h2⟩,h3⟩;rcases hq with hq|hq
   ·exact .inl ⟨by omega,by rw[hq]⟩
   ·exact .inr hq
theorem heldH_at(b off n cap:Nat)(Hq:Nat->HeapV)(k:Int)(w:World)(hn:n<=1048576)(hl:∀i,i<n->(Hq i).len<=1048576)(k0:0<=k)(k1:k<=16777216)(h:At w b off (n*3) (heapF (markH Hq k)))
 (hd:∀i,i<n->InRow w (Hq i).ao (Hq i).len (datK Hq k i)):
 Calls Tryz.prog 55 #[.slice (some ⟨b,off,none⟩) n cap,.int .i64 k] w fun e w'=>e=.returned (.int .i64 (sumK Hq k n))/\w'=w:=by
 have HA:Hid (At w b off (n*3) (heapF (markH Hq k))):=h;have HD:Hid (∀i,i<n->InRow w (Hq i).ao (Hq i).len (datK Hq k i)):=hd;have HL:Hid (∀i,i<n->(Hq i).len<=1048576):=hl;have hb:=h.lt;clear h hd hl;go_enter Tryz.func55,Tryz.ntmps55;go_wp2;go_loopw [1,5](fun kv i wr=>∃q:Nat,q<=n/\i=.int .i64 q/\kv=.int .i64 (sumK Hq k q)/\wr=w)(fun _ i _=>n-(intOf i).toNat)
 case atStart=>exact⟨0,Nat.zero_le _,rfl,rfl,rfl⟩
 case round=>
  obtain⟨q,hq,rfl,rfl,rfl⟩:=hrel;by_cases hlt:q<n
  ·have hlt':(q:Int)<n:=by omega
   have hsb:=sumK_bound Hq k q fun i hi=>HL.out i (by omega)
   obtain⟨sb0,sb1⟩:=hsb;have hlq:=HL.out q hlt;have HSN:Hid (sumK Hq k (q+1)=sumK Hq k q+2+(Hq q).len):=(rfl:sumK Hq k (q+1)=sumK Hq k q+2+(Hq q).len)
   have g0:wr.cell? ⟨b,off+q*3,none⟩=some (.int .u64 (sumK Hq k q)):=by
    have:=HA.out.cell (i:=q*3+0) (by omega);rwa [heapF_0,Nat.add_zero]at this
   have g1:wr.cell? ⟨b,off+q*3+1,none⟩=some (.bool ((sumK Hq k q+1)%3==0)):=by
    have:=HA.out.cell (i:=q*3+1) (by omega);rwa [heapF_1,<-Nat.add_assoc]at this
   have g2:wr.cell? ⟨b,off+q*3+2,none⟩=some (.slice (Hq q).ao (Hq q).len (Hq q).cap):=by
    have:=HA.out.cell (i:=q*3+2) (by omega);rwa [heapF_2,<-Nat.add_assoc]at this
   have hdq:=HD.out q hlt;unfold datK at hdq;have hKq:∃x,sumK Hq k q=x:=⟨_,rfl⟩
   obtain⟨x,hx⟩:=hKq;have HX:Hid (sumK Hq k q=x):=hx;rw[hx]at sb0 sb1 g0 g1 hdq⊢;have HDQ:Hid (InRow wr (Hq q).ao (Hq q).len (numF .u8 fun j=>(x+1+1+j)%256)):=by
    refine InRow.congr hdq fun j _=>?_
    simp only[numF];congr 1
    omega
   have hw:IntKind.u64.wrap x=x:=wrap_id (by omega) (by omega);have hi0:IntKind.i64.wrap x=x:=i64_id (by omega) (by omega);have hi:IntKind.i64.wrap (x+1)=x+1:=i64_id (by omega) (by omega);have hi2:IntKind.i64.wrap (x+1+1)=x+1+1:=i64_id (by omega) (by omega);have hbb:(((x+1)%3==0) !=((x+1)%3==0))=false:=by simp
   have hlt3:x+1+1+(Hq q).len=sumK Hq k (q+1):=by rw[HSN.out,HX.out];omega
   have hnn:¬sumK Hq k (q+1)<0:=by omega
   clear hx hdq;go_wp2_with fail;refine(heldB_in _ _ _ _ _ hlq (by omega) (by omega) HDQ.out).mono ?_;rintro e w3⟨rfl,hw3⟩;rw[hw3,hlt3];clear hw3 w3;go_wp2;go_roundw
   case rel=>exact⟨q+1,by omega,by go_num,rfl,by first|rfl|trivial⟩
   case measure=>simp[intOf];omega
  ·obtain rfl:q=n:=by omega
   go_wp2;go_ret;exact⟨rfl,rfl⟩
theorem heldH_nil(ao:Option Addr)(cap:Nat)(k:Int)(w:World):
 Calls Tryz.prog 55 #[.slice ao 0 cap,.int .i64 k] w fun e w'=>e=.returned (.int .i64 k)/\w'=w:=by
 go_enter Tryz.func55,Tryz.ntmps55;go_wp2;go_loopw [1,5](fun kv i wr=>i=.int .i64 0/\kv=.int .i64 k/\wr=w)(fun _ _ _=>0)
 case atStart=>exact⟨rfl,rfl,rfl⟩
 case round=>
  obtain⟨rfl,rfl,rfl⟩:=hrel;go_wp2;go_ret;exact⟨rfl,rfl⟩
theorem heldH_in(ao:Option Addr)(n cap:Nat)(Hq:Nat->HeapV)(k:Int)(w:World)(hn:n<=1048576)(hl:∀i,i<n->(Hq i).len<=1048576)(k0:0<=k)(k1:k<=16777216)(h:InRow w ao (n*3) (heapF (markH Hq k)))
 (hd:∀i,i<n->InRow w (Hq i).ao (Hq i).len (datK Hq k i)):
 Calls Tryz.prog 55 #[.slice ao n cap,.int .i64 k] w fun e w'=>e=.returned (.int .i64 (sumK Hq k n))/\w'=w:=by
 by_cases h0:n=0
 ·subst h0
  exact heldH_nil ao cap k w
 ·rcases h with h|⟨b,off,rfl,h⟩
  ·omega
  ·exact heldH_at b off n cap Hq k w hn hl k0 k1 h hd
structure WM(w:World)(aR:Option Addr)(nR:Nat)(aH:Option Addr)(nH:Nat)(Hq:Nat->HeapV)(aO:Option Addr)(nO:Nat):Prop where
 regs:∃f,WrR w aR nR f
 heaps:WrR w aH (nH*3) (heapF Hq)
 dat:∀i,i<nH->∃f,WrR w (Hq i).ao (Hq i).len f
 obs:∃f,WrR w aO (nO*2) f
 rh:∀q,Blk aR nR q->¬Blk aH (nH*3) q
 ro:∀q,Blk aR nR q->¬Blk aO (nO*2) q
 ho:∀q,Blk aH (nH*3) q->¬Blk aO (nO*2) q
 rd:∀i,i<nH->∀q,Blk aR nR q->¬BlkD Hq i q
 hd:∀i,i<nH->∀q,Blk aH (nH*3) q->¬BlkD Hq i q
 od:∀i,i<nH->∀q,Blk aO (nO*2) q->¬BlkD Hq i q
 dd:∀i j,i<nH->j<nH->i≠j->∀q,BlkD Hq i q->¬BlkD Hq j q
def SM(aR:Option Addr)(nR:Nat)(aH:Option Addr)(nH:Nat)(Hq:Nat->HeapV)(aO:Option Addr)(nO:Nat)(q:Nat):Prop:=Blk aR nR q∨SHo aH nH Hq q∨Blk aO (nO*2) q
structure Mkd(w:World)(aR:Option Addr)(nR:Nat)(aH:Option Addr)(nH:Nat)(Hq:Nat->HeapV)(aO:Option Addr)(nO:Nat)(k:Int):Prop where
 regs:InRow w aR nR (numF .u64 fun i=>k+i)
 heaps:InRow w aH (nH*3) (heapF (markH Hq (k+nR)))
 dat:∀i,i<nH->InRow w (Hq i).ao (Hq i).len (datK Hq (k+nR) i)
 obs:InRow w aO (nO*2) (obsF (fun i=>sumK Hq (k+nR) nH+2*i) fun i=>sumK Hq (k+nR) nH+2*i+1)
theorem Mkd.below{w w':World}{B:Nat}{aR:Option Addr}{nR:Nat}{aH:Option Addr}{nH:Nat}{Hq:Nat->HeapV}{aO:Option Addr}{nO:Nat}{k:Int}(h:Mkd w aR nR aH nH Hq aO nO k)(hb:Below B w w')(hB:w.heap.size<=B):Mkd w' aR nR aH nH Hq aO nO k:=
 ⟨h.regs.below hb hB,h.heaps.below hb hB,fun i hi=>(h.dat i hi).below hb hB,h.obs.below hb hB⟩
theorem markMach_any(aR:Option Addr)(nR cR:Nat)(z c hz hc:Bool)(aH:Option Addr)(nH cH:Nat)(Hq:Nat->HeapV)(pc st:Int)(aO:Option Addr)(nO cO:Nat)(k:Int)(w:World)(k0:0<=k)(k1:k<=8388608)
 (hR:nR<=1048576)(hH:nH<=1048576)(hl:∀i,i<nH->(Hq i).len<=1048576)(hO:nO<=1048576)(h:WM w aR nR aH nH Hq aO nO):
 Calls Tryz.prog 22 #[.agg #[.slice aR nR cR,.bool z,.bool c,.bool hz,.bool hc,.slice aH nH cH,.int .i64 pc,.int .i64 st,.slice aO nO cO],.int .i64 k] w fun e w'=>
  e=.returned (.int .i64 (sumK Hq (k+nR) nH+2*nO))/\Fr (SM aR nR aH nH Hq aO nO) w w'/\Mkd w' aR nR aH nH Hq aO nO k:=by
 have HW:Hid (WM w aR nR aH nH Hq aO nO):=h;have HL:Hid (∀i,i<nH->(Hq i).len<=1048576):=hl;clear h hl;go_enter Tryz.func22,Tryz.ntmps22;go_wp2_with fail;generalize hw0:w.alloc (.cells #[.slice aR nR cR,.bool z,.bool c,.bool hz,.bool hc,.slice aH nH cH,.int .i64 pc,.int .i64 st,.slice aO nO cO] 28)=w0;have b0:Below w.heap.size w w0:=by rw[<-hw0];exact(Below.refl _ _).alloc (Nat.le_refl _) _
 have m5:w0.cell? ⟨w.heap.size,5,none⟩=some (.slice aH nH cH):=by rw[<-hw0];simp[go_sem]
 have m8:w0.cell? ⟨w.heap.size,8,none⟩=some (.slice aO nO cO):=by rw[<-hw0];simp[go_sem]
 have z0:w.heap.size<w0.heap.size:=by rw[<-hw0];simp
 have HF0:Hid (Fr (SM aR nR aH nH Hq aO nO) w w0):=Fr.of_below b0;have nS:∀q,SM aR nR aH nH Hq aO nO q->q<w.heap.size:=by
  intro q hq;rcases hq with hq|hq|hq
  ·obtain⟨f,hf⟩:=HW.out.regs
   rcases hf with hf|⟨b,hf,ha⟩
   ·exact absurd hf hq.1
   ·rw[hq.2]at hf;simp at hf;rw[hf];exact ha.lt
  ·rcases hq with hq|⟨i,hi,hq⟩
   ·rcases HW.out.heaps with hf|⟨b,hf,ha⟩
    ·exact absurd hf hq.1
    ·rw[hq.2]at hf;simp at hf;rw[hf];exact ha.lt
   ·obtain⟨f,hf⟩:=HW.out.dat i hi
    rcases hf with hf|⟨b,hf,ha⟩
    ·exact absurd hf hq.1
    ·have h2:=hq.2
     rw[h2]at hf;simp at hf;rw[hf];exact ha.lt
  ·obtain⟨f,hf⟩:=HW.out.obs
   rcases hf with hf|⟨b,hf,ha⟩
   ·exact absurd hf hq.1
   ·rw[hq.2]at hf;simp at hf;rw[hf];exact ha.lt
 have NS:Hid (∀q,SM aR nR aH nH Hq aO nO q->q<w.heap.size):=nS;obtain⟨fR,gR⟩:=HW.out.regs;have hH0:Hid (WrR w0 aH (nH*3) (heapF Hq)):=HW.out.heaps.below b0;have hD0:Hid (∀i,i<nH->∃f,WrR w0 (Hq i).ao (Hq i).len f):=fun i hi=>by obtain⟨f,hf⟩:=HW.out.dat i hi;exact⟨f,hf.below b0⟩
 have hO0:Hid (∃f,WrR w0 aO (nO*2) f):=by obtain⟨f,hf⟩:=HW.out.obs;exact⟨f,hf.below b0⟩
 have gR0:=gR.below b0;clear hw0 b0 gR nS;refine(markU_in aR nR cR fR k w0 hR k0 (by omega) gR0).mono ?_;rintro e w1⟨rfl,F1,R1⟩;have nb:¬Blk aR nR w.heap.size:=fun q=>by have:=NS.out _ (.inl q);omega
 have m51:=(F1.cell (o:=5) z0 nb).trans m5;have m81:=(F1.cell (o:=8) z0 nb).trans m8;have z1:w.heap.size<w1.heap.size:=Nat.lt_of_lt_of_le z0 F1.size;have HF1:Hid (Fr (SM aR nR aH nH Hq aO nO) w w1):=HF0.out.trans (F1.mono fun q hq=>.inl hq);have HR1:Hid (WrR w1 aR nR (numF .u64 fun i=>k+i)):=R1;have hH1:Hid (WrR w1 aH (nH*3) (heapF Hq)):=hH0.out.fr F1 (fun q h1 h2=>HW.out.rh q h2 h1);have hD1:Hid (∀i,i<nH->∃f,WrR w1 (Hq i).ao (Hq i).len f):=fun i hi=>by obtain⟨f,hf⟩:=hD0.out i hi;exact⟨f,hf.fr F1 (fun q h1 h2=>HW.out.rd i hi q h2 h1)⟩
 have hO1:Hid (∃f,WrR w1 aO (nO*2) f):=by obtain⟨f,hf⟩:=hO0.out;exact⟨f,hf.fr F1 (fun q h1 h2=>HW.out.ro q h2 h1)⟩
 clear m5 m8 F1 R1 gR0 hH0 hD0 hO0 HF0 nb;go_wp2_with fail;refine(markH_in aH nH cH Hq (k+nR) w1 hH HL.out (by omega) (by omega) hH1.out hD1.out (fun i hi q h1 h2=>HW.out.hd i hi q h2 h1) HW.out.dd).mono ?_;rintro e w2⟨rfl,F2,R2,D2⟩;have nb:¬SHo aH nH Hq w.heap.size:=fun q=>by have:=NS.out _ (.inr (.inl q));omega
 have m82:=(F2.cell (o:=8) z1 nb).trans m81;have z2:w.heap.size<w2.heap.size:=Nat.lt_of_lt_of_le z1 F2.size;have HF2:Hid (Fr (SM aR nR aH nH Hq aO nO) w w2):=HF1.out.trans (F2.mono fun q hq=>.inr (.inl hq));have HR2:Hid (WrR w2 aR nR (numF .u64 fun i=>k+i)):=HR1.out.fr F2 (fun q h1 h2=>by
  rcases h2 with h2|⟨i,hi,h2⟩
  ·exact HW.out.rh q h1 h2
  ·exact HW.out.rd i hi q h1 h2)
 have hO2:Hid (∃f,WrR w2 aO (nO*2) f):=by
  obtain⟨f,hf⟩:=hO1.out;refine⟨f,hf.fr F2 (fun q h1 h2=>?_)⟩;rcases h2 with h2|⟨i,hi,h2⟩
  ·exact HW.out.ho q h2 h1
  ·exact HW.out.od i hi q h1 h2
 have HH2:Hid (WrR w2 aH (nH*3) (heapF (markH Hq (k+nR)))):=R2;have HD2:Hid (∀i,i<nH->WrR w2 (Hq i).ao (Hq i).len (datK Hq (k+nR) i)):=D2;have hsb:=sumK_bound Hq (k+nR) nH HL.out;obtain⟨sb0,sb1⟩:=hsb;have hKq:∃x,sumK Hq (k+nR) nH=x:=⟨_,rfl⟩
 obtain⟨x,hx⟩:=hKq;have HX:Hid (sumK Hq (k+nR) nH=x):=hx;rw[hx]at sb0 sb1⊢;clear m51 m81 F2 R2 D2 hH1 hD1 hO1 HF1 HR1 nb hx;go_wp2_with fail;obtain⟨fO,gO⟩:=hO2.out;refine(markO_in aO nO cO fO x w2 hO (by omega) (by omega) gO).mono ?_;rintro e w3⟨rfl,F3,R3⟩;have HF3:Hid (Fr (SM aR nR aH nH Hq aO nO) w w3):=HF2.out.trans (F3.mono fun q hq=>.inr (.inr hq));have HM:Hid (Mkd w3 aR nR aH nH Hq aO nO k):=⟨(HR2.out.fr F3 HW.out.ro).inRow,(HH2.out.fr F3 HW.out.ho).inRow,fun i hi=>((HD2.out i hi).fr F3 (fun q h1 h2=>HW.out.od i hi q h2 h1)).inRow,by rw[HX.out];exact R3.inRow⟩
 clear F3 R3 gO m82;go_wp2;go_ret;exact⟨by rw[HX.out];rfl,HF3.out,HM.out⟩
theorem heldMach_any(aR:Option Addr)(nR cR:Nat)(z c hz hc:Bool)(aH:Option Addr)(nH cH:Nat)(Hq:Nat->HeapV)(pc st:Int)(aO:Option Addr)(nO cO:Nat)(k:Int)(w:World)(k0:0<=k)(k1:k<=8388608)
 (hR:nR<=1048576)(hH:nH<=1048576)(hl:∀i,i<nH->(Hq i).len<=1048576)(hO:nO<=1048576)(h:Mkd w aR nR aH nH Hq aO nO k):
 Calls Tryz.prog 23 #[.agg #[.slice aR nR cR,.bool z,.bool c,.bool hz,.bool hc,.slice aH nH cH,.int .i64 pc,.int .i64 st,.slice aO nO cO],.int .i64 k] w fun e w'=>
  e=.returned (.int .i64 (sumK Hq (k+nR) nH+2*nO))/\Below w.heap.size w w':=by
 have HW:Hid (Mkd w aR nR aH nH Hq aO nO k):=h;have HL:Hid (∀i,i<nH->(Hq i).len<=1048576):=hl;have hsb:=sumK_bound Hq (k+nR) nH hl;clear h hl;obtain⟨sb0,sb1⟩:=hsb;go_enter Tryz.func23,Tryz.ntmps23;go_wp2_with fail;generalize hw0:w.alloc (.cells #[.slice aR nR cR,.bool z,.bool c,.bool hz,.bool hc,.slice aH nH cH,.int .i64 pc,.int .i64 st,.slice aO nO cO] 28)=w0;have b0:Below w.heap.size w w0:=by rw[<-hw0];exact(Below.refl _ _).alloc (Nat.le_refl _) _
 have m5:w0.cell? ⟨w.heap.size,5,none⟩=some (.slice aH nH cH):=by rw[<-hw0];simp[go_sem]
 have m8:w0.cell? ⟨w.heap.size,8,none⟩=some (.slice aO nO cO):=by rw[<-hw0];simp[go_sem]
 have z0:w.heap.size<w0.heap.size:=by rw[<-hw0];simp
 have HB0:Hid (Below w.heap.size w w0):=b0;have HM0:Hid (Mkd w0 aR nR aH nH Hq aO nO k):=HW.out.below b0 (Nat.le_refl _);clear hw0 b0;refine(heldU_in aR nR cR k w0 hR k0 (by omega) HM0.out.regs).mono ?_;rintro e w1⟨rfl,e1⟩;rw[e1];clear e1 w1;have n1:¬(k+(nR:Int))<0:=by omega
 go_wp2_with fail;refine(heldH_in aH nH cH Hq (k+nR) w0 hH HL.out (by omega) (by omega) HM0.out.heaps HM0.out.dat).mono ?_;rintro e w2⟨rfl,e2⟩;rw[e2];clear e2 w2;have hobs:=HM0.out.obs;have hKq:∃x,sumK Hq (k+nR) nH=x:=⟨_,rfl⟩
 obtain⟨x,hx⟩:=hKq;have HX:Hid (sumK Hq (k+nR) nH=x):=hx;rw[hx]at sb0 sb1 hobs⊢;clear hx;have HOB:Hid (InRow w0 aO (nO*2) (obsF (fun i=>x+2*i) fun i=>x+2*i+1)):=hobs;have n2:¬x<0:=by omega
 have n3:¬x+2*(nO:Int)<0:=by omega
 clear hobs;go_wp2_with fail;refine(heldO_in aO nO cO x w0 hO (by omega) (by omega) HOB.out).mono ?_;rintro e w3⟨rfl,e3⟩;rw[e3];clear e3 w3;go_wp2;go_ret;exact⟨by rw[HX.out];rfl,HB0.out⟩
end Go.Proofs.YtpbceodheeepoaaGreat
