import Derived.Test.YtiphbmhoifggiaaGreatDoorSigWalks
import Derived.Test.YtiphbmhoifggiaaGreatDoorOfRegT
import Derived.Test.YtiphbmhoifggiaaGreatDoorOfValGood
import Derived.Test.YtiphbmhoifggiaaGreatDoorRows
import Derived.Deep.RegionHeld3
import Derived.Deep.Cut
import Derived.Deep.DeepCutAuto
set_option maxHeartbeats 800000
set_option maxRecDepth 100000
namespace Go.Proofs.YtiphbmhoifggiaaGreatDoor
open Go.ChangeShapes Go.WideShapes Go.ChangeAt Go.RowKit Go.Deep
theorem cellsLSig:Tryz.prog.cellsOf 25=2:=by kernel_rfl
theorem cellsLValS:Tryz.prog.cellsOf 23=1:=by kernel_rfl
theorem cellsLHSS:Tryz.prog.cellsOf 22=1:=by kernel_rfl
theorem v_slice_shape{H:Type}{enc:TypeId×Value->H}{w:World}{base:Nat}{spare:Nat->Bool}{held:Bool}{t e:TypeId}(ht:Tryz.prog.underlying t=some (.slice e)){fuel:Nat}{c:Value}{x:DataW H×List MemPlace}(h:DataW.trod enc Tryz.prog w base spare held fuel t [c]=some x):∃ao n cap,c=.slice ao n cap:=by
 rcases open_slice ht h with⟨h0,_⟩|⟨a,len',cap',m,n,D,Pl,hcs,_⟩
 ·simp at h0;exact⟨_,_,_,h0⟩
 ·simp at hcs;exact⟨_,_,_,hcs⟩
theorem open_valS{H:Type}{enc:TypeId×Value->H}{w:World}{base:Nat}{spare:Nat->Bool}{held:Bool}{fuel:Nat}{ao:Option Addr}{len cap:Nat}{x:DataW H×List MemPlace}
 (h:DataW.trod enc Tryz.prog w base spare held fuel 23 [.slice ao len cap]=some x):len<=maxLen/\∃V,InRow w ao (len*6) (vF V):=by
 obtain⟨hm,f,hin,hel⟩:=open_row Tryz.underlying23 cellsLVal (by omega) h;refine⟨hm,?_⟩;haveI:Inhabited VV:=⟨⟨0,false,0,0,0,0⟩⟩
 obtain⟨G,hG⟩:=choose_lt (n:=len) (p:=fun i(g:VV)=>∀j,j<6->f (i*6+j)=vC g j) (fun i hi=>by
  obtain⟨n,y,hy⟩:=hel i hi;obtain⟨v,e⟩:=val_cells hy;refine⟨v,fun j hj=>?_⟩;simp[List.range,List.range.loop]at e;obtain⟨e0,e1,e2,e3,e4,e5⟩:=e;match j,hj with
  |0,_=>simpa[vC]using e0
  |1,_=>simpa[vC]using e1
  |2,_=>simpa[vC]using e2
  |3,_=>simpa[vC]using e3
  |4,_=>simpa[vC]using e4
  |5,_=>simpa[vC]using e5)
 refine⟨G,hin.congr fun p hp=>?_⟩;have h1:p/6<len:=by omega
 have:=hG (p/6) h1 (p%6) (by omega);rw[show p/6*6+p%6=p by omega]at this;rw[this];rfl
theorem open_hsS{H:Type}{enc:TypeId×Value->H}{w:World}{base:Nat}{spare:Nat->Bool}{held:Bool}{fuel:Nat}{ao:Option Addr}{len cap:Nat}{x:DataW H×List MemPlace}
 (h:DataW.trod enc Tryz.prog w base spare held fuel 22 [.slice ao len cap]=some x):len<=maxLen/\∃V,InRow w ao (len*3) (hsF V):=by
 obtain⟨hm,f,hin,hel⟩:=open_row Tryz.underlying22 cellsLHS (by omega) h;refine⟨hm,?_⟩;haveI:Inhabited HS:=⟨⟨0,false,false⟩⟩
 obtain⟨G,hG⟩:=choose_lt (n:=len) (p:=fun i(g:HS)=>∀j,j<3->f (i*3+j)=hsC g j) (fun i hi=>by
  obtain⟨n,y,hy⟩:=hel i hi;obtain⟨v,e⟩:=hs_cells hy;refine⟨v,fun j hj=>?_⟩;simp[List.range,List.range.loop]at e;obtain⟨e0,e1,e2⟩:=e;match j,hj with
  |0,_=>simpa[hsC]using e0
  |1,_=>simpa[hsC]using e1
  |2,_=>simpa[hsC]using e2)
 refine⟨G,hin.congr fun p hp=>?_⟩;have h1:p/3<len:=by omega
 have:=hG (p/3) h1 (p%3) (by omega);rw[show p/3*3+p%3=p by omega]at this;rw[this];rfl
theorem open_sig{H:Type}{enc:TypeId×Value->H}{w:World}{base:Nat}{spare:Nat->Bool}{held:Bool}{fuel:Nat}{cs:List Value}{x:DataW H×List MemPlace}(h:DataW.trod enc Tryz.prog w base spare held fuel 25 cs=some x):
 ∃(aoH:Option Addr)(nH cH:Nat)(S:Nat->HS)(aoR:Option Addr)(nR cR:Nat)(V:Nat->VV),cs=[.slice aoH nH cH,.slice aoR nR cR]/\nH<=maxLen/\nR<=maxLen/\SigIn w aoH nH S aoR nR V:=by
 obtain⟨xs,n,_,_,hl,hlen,hf⟩:=DataW.trod_struct Tryz.underlying25 h;rw[cellsLSig]at hl;match cs,hl with
 |[c0,c1],_=>
  match xs,hlen with
  |[y0,y1],_=>
   have h0:=hf 0 _ rfl;have h1:=hf 1 _ rfl;simp[cellsLValS,cellsLHSS]at h0 h1;obtain⟨aoH,nH,cH,rfl⟩:=v_slice_shape Tryz.underlying22 h0;obtain⟨mH,S,iH⟩:=open_hsS h0;obtain⟨aoR,nR,cR,rfl⟩:=v_slice_shape Tryz.underlying23 h1;obtain⟨mR,V,iR⟩:=open_valS h1;exact⟨aoH,nH,cH,S,aoR,nR,cR,V,rfl,mH,mR,iH,iR⟩
end Go.Proofs.YtiphbmhoifggiaaGreatDoor
namespace Go.Proofs.YtiphbmhoifggiaaGreatDoor
open Go.RowKit
theorem Arr.set1{w:World}{b n:Nat}{f:Nat->Value}(h:Arr w b n f)(o:Nat)(ho:o<n)(v:Value):Arr (w.setCell ⟨b,o,none⟩ v) b n (fun i=>if i=o then v else f i):=by
 have:=h.setCells o [v] (by simp;omega);refine Arr.congr (f:=fun i=>if o<=i/\i<o+[v].length then[v].getD (i-o) undef else f i) this fun i _=>?_
 by_cases e:i=o
 ·subst e;simp
 ·rw[if_neg (by simp;omega),if_neg e]
structure Fv(S:Nat->Prop)(w w':World):Prop where
 os:w'.os=w.os
 tape:w'.tape=w.tape
 output:w'.output=w.output
 size:w.heap.size<=w'.heap.size
 block:∀k,k<w.heap.size->¬S k->w'.heap[k]?=w.heap[k]?
theorem Fv.refl(S:Nat->Prop)(w:World):Fv S w w:=⟨rfl,rfl,rfl,Nat.le_refl _,fun _ _ _=>rfl⟩
theorem Fv.trans{S:Nat->Prop}{a b c:World}(h:Fv S a b)(k:Fv S b c):Fv S a c:=
 ⟨k.os.trans h.os,k.tape.trans h.tape,k.output.trans h.output,Nat.le_trans h.size k.size,fun i hi hn=>(k.block i (Nat.lt_of_lt_of_le hi h.size) hn).trans (h.block i hi hn)⟩
theorem Fv.mono{S T:Nat->Prop}{a b:World}(h:Fv S a b)(hs:∀k,S k->T k):Fv T a b:=⟨h.os,h.tape,h.output,h.size,fun i hi hn=>h.block i hi fun q=>hn (hs i q)⟩
theorem Fv.set{S:Nat->Prop}{a b:World}(h:Fv S a b){k:Nat}(hk:S k)(o:Nat)(v:Value):Fv S a (b.setCell ⟨k,o,none⟩ v):=
 ⟨h.os,h.tape,h.output,by simpa using h.size,fun i hi hn=>by
   have hne:i≠k:=fun q=>hn (by rw[q];exact hk)
   rw[heap_setCell_other _ _ _ _ hne];exact h.block i hi hn⟩
theorem Fv.of_below{S:Nat->Prop}{w w':World}(h:Below w.heap.size w w'):Fv S w w':=⟨h.os,h.tape,h.output,h.size,fun k hk _=>h.block k hk⟩
theorem Fv.cell{S:Nat->Prop}{w w':World}(h:Fv S w w'){b o:Nat}(hb:b<w.heap.size)(hn:¬S b):w'.cell? ⟨b,o,none⟩=w.cell? ⟨b,o,none⟩:=World.cell?_of_block (a:=⟨b,o,none⟩) (h.block b hb hn)
theorem Fv.frozen{S:Nat->Prop}{w w':World}(h:Fv S w w'){b o:Nat}(hb:b<w.heap.size)(hn:¬S b):w'.frozen? ⟨b,o,none⟩=w.frozen? ⟨b,o,none⟩:=World.frozen?_of_block (a:=⟨b,o,none⟩) (h.block b hb hn)
theorem Fv.arr{S:Nat->Prop}{w w':World}(h:Fv S w w'){b n:Nat}{f:Nat->Value}(ha:Arr w b n f)(hn:¬S b):Arr w' b n f:=
 ⟨Nat.lt_of_lt_of_le ha.1 h.size,fun i=>(h.frozen ha.1 hn).trans (ha.2.1 i),fun i hi=>(h.cell ha.1 hn).trans (ha.2.2 i hi)⟩
theorem Fv.cl{S:Nat->Prop}{w w':World}(h:Fv S w w'){b:Nat}{vs:List Value}(ha:Cl w b vs)(hn:¬S b):Cl w' b vs:=
 ⟨Nat.lt_of_lt_of_le ha.1 h.size,fun i hi=>(h.cell ha.1 hn).trans (ha.2 i hi)⟩
theorem Fv.below{S:Nat->Prop}{B:Nat}{w0 w w':World}(h:Fv S w w')(hb:Below B w0 w)(hs:∀k,S k->B<=k)(hB:B<=w.heap.size):Below B w0 w':=
 hb.trans ⟨h.os,h.tape,h.output,h.size,fun k hk=>h.block k (by omega) (fun q=>by have:=hs k q;omega)⟩
def mV(k:Int)(e:Nat):VV:=⟨k+6*e,(k+6*e+1)%3==0,k+6*e+1+1,k+6*e+1+1+1,k+6*e+1+1+1+1,k+6*e+1+1+1+1+1⟩
theorem markVals_at(b n cap:Nat)(f:Nat->Value)(k:Int)(w:World)(hn:n<=1048576)(k0:0<=k)(k1:k<=1125899906842624)(h:Arr w b (n*6) f):
 Calls Tryz.prog 61 #[.slice (some ⟨b,0,none⟩) n cap,.int .i64 k] w fun e w'=>e=.returned (.int .i64 (k+6*n))/\Fv (fun q=>n≠0/\q=b) w w'/\Arr w' b (n*6) (vF (mV k)):=by
 have HA:Hid (Arr w b (n*6) f):=h;clear h;go_enter Tryz.func61,Tryz.ntmps61;go_wp2;go_loopw [1,5](fun kv i wr=>∃q:Nat,q<=n/\i=.int .i64 q/\kv=.int .i64 (k+6*q)/\Fv (fun q=>n≠0/\q=b) w wr/\Arr wr b (n*6) (upTo (vF (mV k)) f (q*6)))(fun _ i _=>n-(intOf i).toNat)
 case atStart=>exact⟨0,Nat.zero_le _,rfl,by simp,Fv.refl _ _,HA.out.congr fun i _=>by rw[Nat.zero_mul];exact(upTo_zero _ _ _).symm⟩
 case round=>
  obtain⟨q,hq,rfl,rfl,hf,ha⟩:=hrel;by_cases hlt:q<n
  ·have hlt':(q:Int)<n:=by omega
   have g0:=ha.cell (i:=q*6) (by omega);have g1:=ha.cell (i:=q*6+1) (by omega);have g2:=ha.cell (i:=q*6+2) (by omega);have g3:=ha.cell (i:=q*6+3) (by omega);have g4:=ha.cell (i:=q*6+4) (by omega);have g5:=ha.cell (i:=q*6+5) (by omega);have gf:=ha.free;have hb:=ha.lt;have HF:Hid (Fv (fun q=>n≠0/\q=b) w wr):=hf;have HR:Hid (Arr wr b (n*6) (upTo (vF (mV k)) f (q*6))):=ha;clear hf ha;go_wp2;go_roundw
   case rel=>
    have hs:n≠0/\b=b:=⟨by omega,rfl⟩
    refine⟨q+1,by omega,by go_num,by simp;omega,(((((HF.out.set hs _ _).set hs _ _).set hs _ _).set hs _ _).set hs _ _).set hs _ _,?_⟩;have:=HR.out.fill (vs:=[.int .i64 (mV k q).k,.bool (mV k q).s,.int .i64 (mV k q).m,.int .i64 (mV k q).h,.int .i64 (mV k q).lo,.int .i64 (mV k q).hi]) (by simp;omega) (fun j hj=>by
     have hj2:j=0∨j=1∨j=2∨j=3∨j=4∨j=5:=by simp at hj;omega
     rcases hj2 with rfl|rfl|rfl|rfl|rfl|rfl<;>rw[vF_at _ _ _ (by omega)]<;>rfl)
    rw[show(q+1)*6=q*6+6 by omega];simpa[World.setCells,mV]using this
   case measure=>simp[intOf];omega
  ·obtain rfl:q=n:=by omega
   have HF:Hid (Fv (fun x=>q≠0/\x=b) w wr):=hf;have HR:Hid (Arr wr b (q*6) (upTo (vF (mV k)) f (q*6))):=ha;clear hf ha;go_wp2;go_ret;exact⟨rfl,HF.out,HR.out.filled⟩
theorem markHS_at(b n cap:Nat)(f:Nat->Value)(k:Int)(w:World)(hn:n<=1048576)(k0:0<=k)(k1:k<=1125899906842624)(h:Arr w b (n*3) f):
 Calls Tryz.prog 60 #[.slice (some ⟨b,0,none⟩) n cap,.int .i64 k] w fun e w'=>e=.returned (.int .i64 (k+3*n))/\Fv (fun q=>n≠0/\q=b) w w':=by
 have HA:Hid (Arr w b (n*3) f):=h;clear h;go_enter Tryz.func60,Tryz.ntmps60;go_wp2;go_loopw [1,5](fun kv i wr=>∃q:Nat,q<=n/\i=.int .i64 q/\kv=.int .i64 (k+3*q)/\Fv (fun q=>n≠0/\q=b) w wr/\∃g,Arr wr b (n*3) g)(fun _ i _=>n-(intOf i).toNat)
 case atStart=>exact⟨0,Nat.zero_le _,rfl,by simp,Fv.refl _ _,f,HA.out⟩
 case round=>
  obtain⟨q,hq,rfl,rfl,hf,g,ha⟩:=hrel;by_cases hlt:q<n
  ·have hlt':(q:Int)<n:=by omega
   have g0:=ha.cell (i:=q*3) (by omega);have g1:=ha.cell (i:=q*3+1) (by omega);have g2:=ha.cell (i:=q*3+2) (by omega);have gf:=ha.free;have hb:=ha.lt;have HF:Hid (Fv (fun q=>n≠0/\q=b) w wr):=hf;have HR:Hid (Arr wr b (n*3) g):=ha;clear hf ha;go_wp2;go_roundw
   case rel=>
    have hs:n≠0/\b=b:=⟨by omega,rfl⟩
    exact⟨q+1,by omega,by go_num,by simp;omega,((HF.out.set hs _ _).set hs _ _).set hs _ _,_,Arr.set1 (Arr.set1 (Arr.set1 HR.out (q*3) (by omega) _) (q*3+1) (by omega) _) (q*3+2) (by omega) _⟩
   case measure=>simp[intOf];omega
  ·obtain rfl:q=n:=by omega
   have HF:Hid (Fv (fun x=>q≠0/\x=b) w wr):=hf;clear hf ha;go_wp2;go_ret;exact⟨rfl,HF.out⟩
theorem markVals_nil(ao:Option Addr)(cap:Nat)(k:Int)(w:World):
 Calls Tryz.prog 61 #[.slice ao 0 cap,.int .i64 k] w fun e w'=>e=.returned (.int .i64 k)/\w'=w:=by
 go_enter Tryz.func61,Tryz.ntmps61;go_wp2;go_loopw [1,5](fun kv i wr=>i=.int .i64 0/\kv=.int .i64 k/\wr=w)(fun _ _ _=>0)
 case atStart=>exact⟨rfl,rfl,rfl⟩
 case round=>
  obtain⟨rfl,rfl,rfl⟩:=hrel;go_wp2;go_ret;exact⟨rfl,rfl⟩
end Go.Proofs.YtiphbmhoifggiaaGreatDoor
