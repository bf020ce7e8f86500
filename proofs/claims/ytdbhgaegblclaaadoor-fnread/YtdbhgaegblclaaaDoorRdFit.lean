import Derived.Test.YtdbhgaegblclaaaDoorRdNum
import Derived.Deep.QuietTactic
import Derived.BigQuiet
set_option maxHeartbeats 6400000
set_option maxRecDepth 20000
namespace Go.Proofs.YtdbhgaegblclaaaDoor
open Go.RowKit
def nvA(x:NV):Array Value:=#[.int .i64 x.op,.int .i64 x.d,.int .i64 x.a,.int .i64 x.b,.int .i64 x.imm,.int .i64 x.h]
def FitR(r:Option NV)(e:Ending):Prop:=
 match r with
 |some x=>e=.returned (.tuple #[.bool true,.agg (nvA x)])
 |none=>∃x,e=.returned (.tuple #[.bool false,.agg (nvA x)])
theorem hp_cell{w:World}{p:Nat}{cs:Array Value}{t:TypeId}{fz:Nat×Nat}(h:w.heap[p]?=some (.cells cs t fz))(j:Nat):w.cell? ⟨p,j,none⟩=cs[j]?:=by
 unfold World.cell?;simp only[h];rfl
theorem hp_free{w:World}{p:Nat}{cs:Array Value}{t:TypeId}(h:w.heap[p]?=some (.cells cs t))(j:Nat):w.frozen? ⟨p,j,none⟩=false:=by
 unfold World.frozen?;simp[h]
theorem hp_set{w:World}{p:Nat}{cs:Array Value}{t:TypeId}(h:w.heap[p]?=some (.cells cs t))(j:Nat)(v:Value):(w.setCell ⟨p,j,none⟩ v).heap[p]?=some (.cells (cs.setIfInBounds j v) t):=by
 unfold World.setCell;rw[Array.getElem?_modify,if_pos rfl,h];rfl
theorem hp_other{w:World}{p q:Nat}{o:Obj}(h:w.heap[p]?=some o)(hne:p≠q)(j:Nat)(v:Value):(w.setCell ⟨q,j,none⟩ v).heap[p]?=some o:=by
 rw[heap_setCell_other _ _ _ _ hne];exact h
structure FX(w:World)(p q:Nat)(x:NV)(v:World):Prop where
 bel:Below w.heap.size w v
 P:v.heap[p]?=some (.cells (nvA nv0) 56)
 X:v.heap[q]?=some (.cells (nvA x) 56)
theorem FX.below{w v v':World}{p q:Nat}{x:NV}(h:FX w p q x v)(hb:Below v.heap.size v v'):FX w p q x v':=
 ⟨h.bel.trans (hb.mono h.bel.size),(hb.block p (Array.getElem?_eq_some_iff.1 h.P).1).trans h.P,(hb.block q (Array.getElem?_eq_some_iff.1 h.X).1).trans h.X⟩
theorem FX.put{w v:World}{p q j:Nat}{x y:NV}{val:Value}(h:FX w p q x v)(hq:w.heap.size<=q)(hne:p≠q)(hy:(nvA x).setIfInBounds j val=nvA y):FX w p q y (v.setCell ⟨q,j,none⟩ val):=
 ⟨h.bel.setCell hq _,hp_other h.P hne _ _,by rw[hp_set h.X,hy]⟩
theorem FX.sz{w v:World}{p q:Nat}{x:NV}(h:FX w p q x v):p<v.heap.size/\q<v.heap.size:=⟨(Array.getElem?_eq_some_iff.1 h.P).1,(Array.getElem?_eq_some_iff.1 h.X).1⟩
theorem fd_true{c:UInt8}(h:isFd c=true)(hn:c≠78):c=65∨c=66∨c=68∨c=72∨c=73∨c=64:=by
 unfold isFd at h;simp only[Bool.or_eq_true,beq_iff_eq]at h;rcases h with(((((h|h)|h)|h)|h)|h)|h;all_goals first|exact absurd h hn|simp[h]
theorem u8_ne{c:UInt8}{n:Nat}(hn:n<256)(h:c≠UInt8.ofNat n):((c.toNat:Int)==(n:Int))=false:=by
 rw[beq_eq_false_iff_ne];intro e;apply h;apply UInt8.toNat_inj.1;rw[UInt8.toNat_ofNat_of_lt' hn];omega
theorem num_len{sg:Bool}{l:List UInt8}{v:Int}{n:Nat}(h:numS sg l=some (v,n)):n<=l.length:=by
 unfold numS at h;split at h
 ·rename_i hc
  rcases hna:numAt l.tail with _|⟨v',n'⟩
  ·rw[hna]at h;cases h
  ·rw[hna]at h
   simp only at h;split at h
   ·cases h
   ·have:=num_bound hna
    simp only[Option.some.injEq,Prod.mk.injEq]at h;have hl:l≠[]:=by intro e;subst e;simp at hc
    have h1:1<=l.length:=by cases l with|nil=>exact absurd rfl hl|cons a b=>simp
    rw[List.length_tail]at this;omega
 ·have:=num_bound h
  omega
theorem fit_any(s sh:ByteArray)(w:World)(hs:(s.size:Int)<=200000)(hsh:(sh.size:Int)<=100)(hN:∀c∈sh.data.toList,c≠78):
 Calls Tryd.prog 76 #[.string s,.string sh] w fun e w'=>FitR (fit sh.data.toList s.data.toList nv0) e/\Below w.heap.size w w':=by
 have HN:Hid (∀c∈sh.data.toList,c≠78):=hN
 have HLS:Hid (s.data.toList.length=s.size):=(by simp:s.data.toList.length=s.size)
 have HLH:Hid (sh.data.toList.length=sh.size):=(by simp:sh.data.toList.length=sh.size)
 clear hN
 go_enter Tryd.func76,Tryd.ntmps76
 go_upto_region 2 with fail
 obtain⟨p,hp⟩:∃p,w.heap.size=p:=⟨_,rfl⟩
 obtain⟨u,hu,FX0⟩:∃v,(w.alloc (.cells #[.int .i64 0,.int .i64 0,.int .i64 0,.int .i64 0,.int .i64 0,.int .i64 0] 56)).alloc (.cells #[.int .i64 0,.int .i64 0,.int .i64 0,.int .i64 0,.int .i64 0,.int .i64 0] 56)=v/\Hid (FX w p (p+1) nv0 v):=by
  refine⟨_,rfl,?_⟩
  have h1:Below w.heap.size w (w.alloc (.cells #[.int .i64 0,.int .i64 0,.int .i64 0,.int .i64 0,.int .i64 0,.int .i64 0] 56)):=(Below.refl _ _).alloc (Nat.le_refl _) _
  have h2:Below (w.alloc (.cells #[.int .i64 0,.int .i64 0,.int .i64 0,.int .i64 0,.int .i64 0,.int .i64 0] 56)).heap.size (w.alloc (.cells #[.int .i64 0,.int .i64 0,.int .i64 0,.int .i64 0,.int .i64 0,.int .i64 0] 56)) ((w.alloc (.cells #[.int .i64 0,.int .i64 0,.int .i64 0,.int .i64 0,.int .i64 0,.int .i64 0] 56)).alloc (.cells #[.int .i64 0,.int .i64 0,.int .i64 0,.int .i64 0,.int .i64 0,.int .i64 0] 56)):=(Below.refl _ _).alloc (Nat.le_refl _) _
  have e1:(w.alloc (.cells #[.int .i64 0,.int .i64 0,.int .i64 0,.int .i64 0,.int .i64 0,.int .i64 0] 56)).heap.size=p+1:=by simp[hp]
  refine(⟨h1.trans (h2.mono h1.size),?_,?_⟩:FX w p (p+1) nv0 _)
  ·rw[h2.block p (by omega),<-hp];exact heap_alloc_newB w _
  ·rw[<-e1];exact heap_alloc_newB _ _
 rw[hu,hp]
 have HP:Hid (w.heap.size=p):=hp
 clear hu hp
 go_wp2_with fail
 go_loopw [7,8,9,10,11,12](fun iv kv _ _ _ _ wr=>∃(i k:Nat)(x:NV),i<=s.size/\k<=sh.size/\iv=.int .i64 i/\kv=.int .i64 k/\FX w p (p+1) x wr/\fit sh.data.toList s.data.toList nv0=fit (sh.data.toList.drop k) (s.data.toList.drop i) x)(fun _ kv _ _ _ _ _=>sh.size-(intOf kv).toNat)
 case atStart=>exact⟨0,0,nv0,Nat.zero_le _,Nat.zero_le _,rfl,rfl,FX0.out,by simp⟩
 case round=>
  clear FX0
  obtain⟨i,k,x,hi,hk,rfl,rfl,hfx,hfit⟩:=hrel
  have F:Hid (FX w p (p+1) x wr):=hfx
  have HF:Hid (fit sh.data.toList s.data.toList nv0=fit (sh.data.toList.drop k) (s.data.toList.drop i) x):=hfit
  have hpz:=hfx.sz
  have q0:=hp_cell hfx.X 0
  have q1:=hp_cell hfx.X 1
  have q2:=hp_cell hfx.X 2
  have q3:=hp_cell hfx.X 3
  have q4:=hp_cell hfx.X 4
  have q5:=hp_cell hfx.X 5
  have p0:=hp_cell hfx.P 0
  have p1:=hp_cell hfx.P 1
  have p2:=hp_cell hfx.P 2
  have p3:=hp_cell hfx.P 3
  have p4:=hp_cell hfx.P 4
  have p5:=hp_cell hfx.P 5
  have pf:=hp_free hfx.P
  have qf:=hp_free hfx.X
  have BF:Hid (∀(v0 v1 v2 v3 v4 v5:Value),Below w.heap.size w ((((((wr.setCell ⟨p,0,none⟩ v0).setCell ⟨p,1,none⟩ v1).setCell ⟨p,2,none⟩ v2).setCell ⟨p,3,none⟩ v3).setCell ⟨p,4,none⟩ v4).setCell ⟨p,5,none⟩ v5)):=fun v0 v1 v2 v3 v4 v5=>by
   have hp:w.heap.size<=p:=Nat.le_of_eq HP.out
   exact(((((hfx.bel.setCell hp _).setCell hp _).setCell hp _).setCell hp _).setCell hp _).setCell hp _
  simp only[nvA,List.getElem?_toArray,List.getElem?_cons_zero,List.getElem?_cons_succ]at q0 q1 q2 q3 q4 q5 p0 p1 p2 p3 p4 p5
  clear hfx hfit
  by_cases hlt:k<sh.size
  rotate_left
  ·have hl1:¬(k:Int)<sh.size:=by omega
   have hdk:fit sh.data.toList s.data.toList nv0=if s.data.toList.drop i=[]then some x else none:=by
    rw[HF.out,List.drop_eq_nil_of_le (by rw[HLH.out];omega)]
    rfl
   have HDK:Hid (fit sh.data.toList s.data.toList nv0=if s.data.toList.drop i=[]then some x else none):=hdk
   have hie:((i:Int)==s.size)=decide (s.data.toList.drop i=[]):=by
    have:s.data.toList.drop i=[]↔i=s.size:=by
     rw[List.drop_eq_nil_iff,HLS.out];omega
    rw[Bool.eq_iff_iff]
    simp only[beq_iff_eq,decide_eq_true_eq,this]
    omega
   have HIE:Hid (((i:Int)==s.size)=decide (s.data.toList.drop i=[])):=hie
   clear hdk hie
   obtain⟨b,hb⟩:∃b,((i:Int)==s.size)=b:=⟨_,rfl⟩
   have HB:Hid (((i:Int)==s.size)=b):=hb
   go_wp2_with fail
   have r0:∀w',Below wr.heap.size wr w'->w'.cell? ⟨p+1,0,none⟩=some (.int .i64 x.op):=fun w' h=>(h.cell (p:=⟨p+1,0,none⟩) hpz.2).trans q0
   have r1:∀w',Below wr.heap.size wr w'->w'.cell? ⟨p+1,1,none⟩=some (.int .i64 x.d):=fun w' h=>(h.cell (p:=⟨p+1,1,none⟩) hpz.2).trans q1
   have r2:∀w',Below wr.heap.size wr w'->w'.cell? ⟨p+1,2,none⟩=some (.int .i64 x.a):=fun w' h=>(h.cell (p:=⟨p+1,2,none⟩) hpz.2).trans q2
   have r3:∀w',Below wr.heap.size wr w'->w'.cell? ⟨p+1,3,none⟩=some (.int .i64 x.b):=fun w' h=>(h.cell (p:=⟨p+1,3,none⟩) hpz.2).trans q3
   have r4:∀w',Below wr.heap.size wr w'->w'.cell? ⟨p+1,4,none⟩=some (.int .i64 x.imm):=fun w' h=>(h.cell (p:=⟨p+1,4,none⟩) hpz.2).trans q4
   have r5:∀w',Below wr.heap.size wr w'->w'.cell? ⟨p+1,5,none⟩=some (.int .i64 x.h):=fun w' h=>(h.cell (p:=⟨p+1,5,none⟩) hpz.2).trans q5
   refine wp_region_L (T:=fun w'=>Below wr.heap.size wr w') (s:=6) (by kernel_rfl) (Below.refl _ _).drew (fun hHeld=>?_)
   refine wpAnyL_tk 0 ?k1v rfl ?k1y ?k1r
   case k1y=>(intro w hSw;(try dsimp only at hSw);go_simp;try with_reducible rfl)
   try simp only[Act.put,List.getElem_toArray,List.getElem_cons_zero,List.setIfInBounds_toArray,List.set_cons_zero,List.set_cons_succ]
   refine wpAnyL_tk 1 ?k2v rfl ?k2y ?k2r
   case k2y=>(intro w hSw;(try dsimp only at hSw);go_simp;try with_reducible rfl)
   try simp only[Act.put,List.getElem_toArray,List.getElem_cons_zero,List.getElem_cons_succ,List.setIfInBounds_toArray,List.set_cons_zero,List.set_cons_succ]
   refine wpAnyL_tk 2 ?k3v rfl ?k3y ?k3r
   case k3y=>(intro w hSw;(try dsimp only at hSw);go_simp;try with_reducible rfl)
   try simp only[Act.put,List.getElem_toArray,List.getElem_cons_zero,List.getElem_cons_succ,List.setIfInBounds_toArray,List.set_cons_zero,List.set_cons_succ]
   refine wpAnyL_tk 3 ?k4v rfl ?k4y ?k4r
   case k4y=>(intro w hSw;(try dsimp only at hSw);go_simp;try with_reducible rfl)
   try simp only[Act.put,List.getElem_toArray,List.getElem_cons_zero,List.getElem_cons_succ,List.setIfInBounds_toArray,List.set_cons_zero,List.set_cons_succ]
   refine wpAnyL_tk 4 ?k5v rfl ?k5y ?k5r
   case k5y=>(intro w hSw;(try dsimp only at hSw);go_simp;try with_reducible rfl)
   try simp only[Act.put,List.getElem_toArray,List.getElem_cons_zero,List.getElem_cons_succ,List.setIfInBounds_toArray,List.set_cons_zero,List.set_cons_succ]
   refine wpAnyL_tk 5 ?k6v rfl ?k6y ?k6r
   case k6y=>(intro w hSw;(try dsimp only at hSw);go_simp;try with_reducible rfl)
   try simp only[Act.put,List.getElem_toArray,List.getElem_cons_zero,List.getElem_cons_succ,List.setIfInBounds_toArray,List.set_cons_zero,List.set_cons_succ]
   have d0:wr.drew.cell? ⟨p,0,none⟩=some (.int .i64 0):=p0
   have d1:wr.drew.cell? ⟨p,1,none⟩=some (.int .i64 0):=p1
   have d2:wr.drew.cell? ⟨p,2,none⟩=some (.int .i64 0):=p2
   have d3:wr.drew.cell? ⟨p,3,none⟩=some (.int .i64 0):=p3
   have d4:wr.drew.cell? ⟨p,4,none⟩=some (.int .i64 0):=p4
   have d5:wr.drew.cell? ⟨p,5,none⟩=some (.int .i64 0):=p5
   have df:∀j,wr.drew.frozen? ⟨p,j,none⟩=false:=pf
   have dz:p<wr.drew.heap.size:=hpz.1
   refine wpAnyL_store rfl (by kernel_rfl) (by kernel_rfl) (fun KK hK=>?_)
   go_simp
   refine hK.out _ _ ?_
   clear hK KK hHeld r0 r1 r2 r3 r4 r5
   go_wp2_with fail
   refine bodyPost_ret (v:=.tuple #[.bool b,.agg (nvA x)]) (by simp[results,Tryd.results76,go_sem,nvA, *]) rfl ⟨?_,?_⟩
   ·rw[HDK.out]
    have e2:=HIE.out
    rw[HB.out]at e2
    cases b with
    |true=>rw[if_pos (by simpa using e2.symm)];rfl
    |false=>rw[if_neg (by simpa using e2.symm)];exact⟨x,rfl⟩
   ·exact((BF.out _ _ _ _ _ _).drew:Below w.heap.size w _)
  have hl1:(k:Int)<sh.size:=by omega
  obtain⟨c,hc⟩:∃c,sh[k]=c:=⟨_,rfl⟩
  have hcc:∀h,sh[k]'h=c:=fun _=>hc
  have hdk:sh.data.toList.drop k=c::sh.data.toList.drop (k+1):=by
   rw[List.drop_eq_getElem_cons (by rw[HLH.out];omega)]
   congr 1
  have c78:c≠78:=HN.out c (by have:c∈sh.data.toList.drop k:=by rw[hdk];simp
                              exact List.mem_of_mem_drop this)
  have HC8:Hid (c≠78):=c78
  have HDK:Hid (sh.data.toList.drop k=c::sh.data.toList.drop (k+1)):=hdk
  clear hc c78 hdk
  obtain⟨fd,hfd⟩:∃b,isFd c=b:=⟨_,rfl⟩
  have HFD:Hid (isFd c=fd):=hfd
  clear hfd
  go_upto_region 7 with fail
  go_cut [44](fun b wx=>wx=wr/\b=.bool fd)
  case first=>
   clear q0 q1 q2 q3 q4 q5 p0 p1 p2 p3 p4 p5 pf qf
   by_cases h65:c=65
   ·subst h65
    have e:Hid (true=fd):=(HFD.out:true=fd)
    go_wp2_with fail
    go_meet
    exact⟨rfl,congrArg Value.bool e.out⟩
   have k65:((c.toNat:Int)==65)=false:=u8_ne (n:=65) (by omega) h65
   by_cases h66:c=66
   ·subst h66
    have e:Hid (true=fd):=(HFD.out:true=fd)
    go_wp2_with fail
    go_meet
    exact⟨rfl,congrArg Value.bool e.out⟩
   have k66:((c.toNat:Int)==66)=false:=u8_ne (n:=66) (by omega) h66
   by_cases h68:c=68
   ·subst h68
    have e:Hid (true=fd):=(HFD.out:true=fd)
    go_wp2_with fail
    go_meet
    exact⟨rfl,congrArg Value.bool e.out⟩
   have k68:((c.toNat:Int)==68)=false:=u8_ne (n:=68) (by omega) h68
   by_cases h72:c=72
   ·subst h72
    have e:Hid (true=fd):=(HFD.out:true=fd)
    go_wp2_with fail
    go_meet
    exact⟨rfl,congrArg Value.bool e.out⟩
   have k72:((c.toNat:Int)==72)=false:=u8_ne (n:=72) (by omega) h72
   by_cases h73:c=73
   ·subst h73
    have e:Hid (true=fd):=(HFD.out:true=fd)
    go_wp2_with fail
    go_meet
    exact⟨rfl,congrArg Value.bool e.out⟩
   have k73:((c.toNat:Int)==73)=false:=u8_ne (n:=73) (by omega) h73
   by_cases h64:c=64
   ·subst h64
    have e:Hid (true=fd):=(HFD.out:true=fd)
    go_wp2_with fail
    go_meet
    exact⟨rfl,congrArg Value.bool e.out⟩
   have k64:((c.toNat:Int)==64)=false:=u8_ne (n:=64) (by omega) h64
   have e:Hid (false=fd):=(by
    rw[<-HFD.out]
    have h78:=HC8.out
    simp[isFd,h65,h66,h68,h72,h73,h64,h78]:false=fd)
   clear h65 h66 h68 h72 h73 h64
   go_wp2_with fail
   go_meet
   exact⟨rfl,congrArg Value.bool e.out⟩
  case rest=>
  obtain⟨hw,rfl⟩:=hcut
  rw[hw]
  clear hw
  cases fd with
  |false=>
   have hst:fit sh.data.toList s.data.toList nv0=match s.data.toList.drop i with|[]=>none|r::l'=>if r=c then fit (sh.data.toList.drop (k+1)) l' x else none:=by
    rw[HF.out,HDK.out,fit_cons_lit c _ _ _ HFD.out]
    rcases s.data.toList.drop i with _|⟨r,l'⟩<;>rfl
   by_cases hil:i<s.size
   ·have hil1:(i:Int)<s.size:=by omega
    have hil2:¬(s.size:Int)<=i:=by omega
    obtain⟨r,hr⟩:∃r,s[i]=r:=⟨_,rfl⟩
    have hrr:∀h,s[i]'h=r:=fun _=>hr
    have hdi:s.data.toList.drop i=r::s.data.toList.drop (i+1):=by
     rw[List.drop_eq_getElem_cons (by rw[HLS.out];omega)]
     congr 1
    rw[hdi]at hst
    simp only at hst
    have HST:Hid (fit sh.data.toList s.data.toList nv0=if r=c then fit (sh.data.toList.drop (k+1)) (s.data.toList.drop (i+1)) x else none):=hst
    clear hst hdi hr
    by_cases hrc:r=c
    ·have hne:((r.toNat:Int) !=(c.toNat:Int))=false:=by rw[hrc];simp
     have HRC:Hid (r=c):=hrc
     clear hrc
     go_wp2_with fail
     go_roundw
     case rel=>
      refine⟨i+1,k+1,x,by omega,by omega,by go_num,by go_num,F.out,?_⟩
      rw[HST.out,if_pos HRC.out]
     case measure=>simp[intOf];omega
    ·have hne:((r.toNat:Int) !=(c.toNat:Int))=true:=by
      rw[bne_iff_ne]
      intro e
      exact hrc (UInt8.toNat_inj.1 (by omega))
     have HNO:Hid (fit sh.data.toList s.data.toList nv0=none):=(by rw[HST.out,if_neg hrc]:fit sh.data.toList s.data.toList nv0=none)
     clear hrc
     go_wp2_with fail
     have r0:∀w',Below wr.heap.size wr w'->w'.cell? ⟨p+1,0,none⟩=some (.int .i64 x.op):=fun w' h=>(h.cell (p:=⟨p+1,0,none⟩) hpz.2).trans q0
     have r1:∀w',Below wr.heap.size wr w'->w'.cell? ⟨p+1,1,none⟩=some (.int .i64 x.d):=fun w' h=>(h.cell (p:=⟨p+1,1,none⟩) hpz.2).trans q1
     have r2:∀w',Below wr.heap.size wr w'->w'.cell? ⟨p+1,2,none⟩=some (.int .i64 x.a):=fun w' h=>(h.cell (p:=⟨p+1,2,none⟩) hpz.2).trans q2
     have r3:∀w',Below wr.heap.size wr w'->w'.cell? ⟨p+1,3,none⟩=some (.int .i64 x.b):=fun w' h=>(h.cell (p:=⟨p+1,3,none⟩) hpz.2).trans q3
     have r4:∀w',Below wr.heap.size wr w'->w'.cell? ⟨p+1,4,none⟩=some (.int .i64 x.imm):=fun w' h=>(h.cell (p:=⟨p+1,4,none⟩) hpz.2).trans q4
     have r5:∀w',Below wr.heap.size wr w'->w'.cell? ⟨p+1,5,none⟩=some (.int .i64 x.h):=fun w' h=>(h.cell (p:=⟨p+1,5,none⟩) hpz.2).trans q5
     refine wp_region_L (T:=fun w'=>Below wr.heap.size wr w') (s:=2) (by kernel_rfl) (Below.refl _ _).drew (fun hHeld=>?_)
     refine wpAnyL_tk 0 ?k7v rfl ?k7y ?k7r
     case k7y=>(intro w hSw;(try dsimp only at hSw);go_simp;try with_reducible rfl)
     try simp only[Act.put,List.getElem_toArray,List.getElem_cons_zero,List.setIfInBounds_toArray,List.set_cons_zero,List.set_cons_succ]
     refine wpAnyL_tk 1 ?k8v rfl ?k8y ?k8r
     case k8y=>(intro w hSw;(try dsimp only at hSw);go_simp;try with_reducible rfl)
     try simp only[Act.put,List.getElem_toArray,List.getElem_cons_zero,List.getElem_cons_succ,List.setIfInBounds_toArray,List.set_cons_zero,List.set_cons_succ]
     have d0:wr.drew.cell? ⟨p,0,none⟩=some (.int .i64 0):=p0
     have d1:wr.drew.cell? ⟨p,1,none⟩=some (.int .i64 0):=p1
     have d2:wr.drew.cell? ⟨p,2,none⟩=some (.int .i64 0):=p2
     have d3:wr.drew.cell? ⟨p,3,none⟩=some (.int .i64 0):=p3
     have d4:wr.drew.cell? ⟨p,4,none⟩=some (.int .i64 0):=p4
     have d5:wr.drew.cell? ⟨p,5,none⟩=some (.int .i64 0):=p5
     have df:∀j,wr.drew.frozen? ⟨p,j,none⟩=false:=pf
     have dz:p<wr.drew.heap.size:=hpz.1
     refine wpAnyL_store rfl (by kernel_rfl) (by kernel_rfl) (fun KK hK=>?_)
     go_simp
     refine hK.out _ _ ?_
     clear hK KK hHeld r0 r1 r2 r3 r4 r5
     go_wp2_with fail
     refine bodyPost_ret (v:=.tuple #[.bool false,.agg (nvA x)]) (by simp[results,Tryd.results76,go_sem,nvA, *]) rfl ⟨?_,?_⟩
     ·rw[HNO.out];exact⟨x,rfl⟩
     ·exact((BF.out _ _ _ _ _ _).drew:Below w.heap.size w _)
   ·have hil1:(s.size:Int)<=i:=by omega
    have hdi:s.data.toList.drop i=[]:=List.drop_eq_nil_of_le (by rw[HLS.out];omega)
    rw[hdi]at hst
    have HNO:Hid (fit sh.data.toList s.data.toList nv0=none):=hst
    clear hst hdi
    go_wp2_with fail
    have r0:∀w',Below wr.heap.size wr w'->w'.cell? ⟨p+1,0,none⟩=some (.int .i64 x.op):=fun w' h=>(h.cell (p:=⟨p+1,0,none⟩) hpz.2).trans q0
    have r1:∀w',Below wr.heap.size wr w'->w'.cell? ⟨p+1,1,none⟩=some (.int .i64 x.d):=fun w' h=>(h.cell (p:=⟨p+1,1,none⟩) hpz.2).trans q1
    have r2:∀w',Below wr.heap.size wr w'->w'.cell? ⟨p+1,2,none⟩=some (.int .i64 x.a):=fun w' h=>(h.cell (p:=⟨p+1,2,none⟩) hpz.2).trans q2
    have r3:∀w',Below wr.heap.size wr w'->w'.cell? ⟨p+1,3,none⟩=some (.int .i64 x.b):=fun w' h=>(h.cell (p:=⟨p+1,3,none⟩) hpz.2).trans q3
    have r4:∀w',Below wr.heap.size wr w'->w'.cell? ⟨p+1,4,none⟩=some (.int .i64 x.imm):=fun w' h=>(h.cell (p:=⟨p+1,4,none⟩) hpz.2).trans q4
    have r5:∀w',Below wr.heap.size wr w'->w'.cell? ⟨p+1,5,none⟩=some (.int .i64 x.h):=fun w' h=>(h.cell (p:=⟨p+1,5,none⟩) hpz.2).trans q5
    refine wp_region_L (T:=fun w'=>Below wr.heap.size wr w') (s:=2) (by kernel_rfl) (Below.refl _ _).drew (fun hHeld=>?_)
    refine wpAnyL_tk 0 ?k9v rfl ?k9y ?k9r
    case k9y=>(intro w hSw;(try dsimp only at hSw);go_simp;try with_reducible rfl)
    try simp only[Act.put,List.getElem_toArray,List.getElem_cons_zero,List.setIfInBounds_toArray,List.set_cons_zero,List.set_cons_succ]
    refine wpAnyL_tk 1 ?k10v rfl ?k10y ?k10r
    case k10y=>(intro w hSw;(try dsimp only at hSw);go_simp;try with_reducible rfl)
    try simp only[Act.put,List.getElem_toArray,List.getElem_cons_zero,List.getElem_cons_succ,List.setIfInBounds_toArray,List.set_cons_zero,List.set_cons_succ]
    have d0:wr.drew.cell? ⟨p,0,none⟩=some (.int .i64 0):=p0
    have d1:wr.drew.cell? ⟨p,1,none⟩=some (.int .i64 0):=p1
    have d2:wr.drew.cell? ⟨p,2,none⟩=some (.int .i64 0):=p2
    have d3:wr.drew.cell? ⟨p,3,none⟩=some (.int .i64 0):=p3
    have d4:wr.drew.cell? ⟨p,4,none⟩=some (.int .i64 0):=p4
    have d5:wr.drew.cell? ⟨p,5,none⟩=some (.int .i64 0):=p5
    have df:∀j,wr.drew.frozen? ⟨p,j,none⟩=false:=pf
    have dz:p<wr.drew.heap.size:=hpz.1
    refine wpAnyL_store rfl (by kernel_rfl) (by kernel_rfl) (fun KK hK=>?_)
    go_simp
    refine hK.out _ _ ?_
    clear hK KK hHeld r0 r1 r2 r3 r4 r5
    go_wp2_with fail
    refine bodyPost_ret (v:=.tuple #[.bool false,.agg (nvA x)]) (by simp[results,Tryd.results76,go_sem,nvA, *]) rfl ⟨?_,?_⟩
    ·rw[HNO.out];exact⟨x,rfl⟩
    ·exact((BF.out _ _ _ _ _ _).drew:Below w.heap.size w _)
  |true=>
   have hst:fit sh.data.toList s.data.toList nv0=match numS (c==73) (s.data.toList.drop i)with|some (v,n)=>fit (sh.data.toList.drop (k+1)) ((s.data.toList.drop i).drop n) (setF x c v)|none=>none:=by
    rw[HF.out,HDK.out]
    show(if isFd c=true then _ else _)=_
    rw[if_pos HFD.out]
    rcases numS (c==73) (s.data.toList.drop i)with _|⟨v,n⟩<;>rfl
   have hsg:((c.toNat:Int)==73)=(c==73):=by
    rw[Bool.eq_iff_iff]
    simp only[beq_iff_eq]
    constructor
    ·intro e
     apply UInt8.toNat_inj.1
     show c.toNat=73
     omega
    ·intro e;subst e;rfl
   have HST:Hid (fit sh.data.toList s.data.toList nv0=match numS (c==73) (s.data.toList.drop i)with|some (v,n)=>fit (sh.data.toList.drop (k+1)) ((s.data.toList.drop i).drop n) (setF x c v)|none=>none):=hst
   obtain⟨sg,hsgc⟩:∃sg,(c==73)=sg:=⟨_,rfl⟩
   rw[hsgc]at hsg
   have HSG:Hid ((c==73)=sg):=hsgc
   have FD:Hid (c=65∨c=66∨c=68∨c=72∨c=73∨c=64):=fd_true HFD.out HC8.out
   clear hst hsgc
   go_upto_region 8 with fail
   go_wp2_with fail
   refine(number_any s i sg wr hs hi).mono ?_
   rintro e w2⟨hn,hw2⟩
   rw[hw2]
   clear hw2
   rcases hnum:numS sg (s.data.toList.drop i)with _|⟨v,n⟩
   ·rw[hnum]at hn
    obtain⟨j,rfl⟩:=hn
    have HNO:Hid (fit sh.data.toList s.data.toList nv0=none):=(by rw[HST.out,HSG.out,hnum]:fit sh.data.toList s.data.toList nv0=none)
    clear hnum
    go_wp2_with fail
    have r0:∀w',Below wr.heap.size wr w'->w'.cell? ⟨p+1,0,none⟩=some (.int .i64 x.op):=fun w' h=>(h.cell (p:=⟨p+1,0,none⟩) hpz.2).trans q0
    have r1:∀w',Below wr.heap.size wr w'->w'.cell? ⟨p+1,1,none⟩=some (.int .i64 x.d):=fun w' h=>(h.cell (p:=⟨p+1,1,none⟩) hpz.2).trans q1
    have r2:∀w',Below wr.heap.size wr w'->w'.cell? ⟨p+1,2,none⟩=some (.int .i64 x.a):=fun w' h=>(h.cell (p:=⟨p+1,2,none⟩) hpz.2).trans q2
    have r3:∀w',Below wr.heap.size wr w'->w'.cell? ⟨p+1,3,none⟩=some (.int .i64 x.b):=fun w' h=>(h.cell (p:=⟨p+1,3,none⟩) hpz.2).trans q3
    have r4:∀w',Below wr.heap.size wr w'->w'.cell? ⟨p+1,4,none⟩=some (.int .i64 x.imm):=fun w' h=>(h.cell (p:=⟨p+1,4,none⟩) hpz.2).trans q4
    have r5:∀w',Below wr.heap.size wr w'->w'.cell? ⟨p+1,5,none⟩=some (.int .i64 x.h):=fun w' h=>(h.cell (p:=⟨p+1,5,none⟩) hpz.2).trans q5
    refine wp_region_L (T:=fun w'=>Below wr.heap.size wr w') (s:=2) (by kernel_rfl) (Below.refl _ _).drew (fun hHeld=>?_)
    refine wpAnyL_tk 0 ?k11v rfl ?k11y ?k11r
    case k11y=>(intro w hSw;(try dsimp only at hSw);go_simp;try with_reducible rfl)
    try simp only[Act.put,List.getElem_toArray,List.getElem_cons_zero,List.setIfInBounds_toArray,List.set_cons_zero,List.set_cons_succ]
    refine wpAnyL_tk 1 ?k12v rfl ?k12y ?k12r
    case k12y=>(intro w hSw;(try dsimp only at hSw);go_simp;try with_reducible rfl)
    try simp only[Act.put,List.getElem_toArray,List.getElem_cons_zero,List.getElem_cons_succ,List.setIfInBounds_toArray,List.set_cons_zero,List.set_cons_succ]
    have d0:wr.drew.cell? ⟨p,0,none⟩=some (.int .i64 0):=p0
    have d1:wr.drew.cell? ⟨p,1,none⟩=some (.int .i64 0):=p1
    have d2:wr.drew.cell? ⟨p,2,none⟩=some (.int .i64 0):=p2
    have d3:wr.drew.cell? ⟨p,3,none⟩=some (.int .i64 0):=p3
    have d4:wr.drew.cell? ⟨p,4,none⟩=some (.int .i64 0):=p4
    have d5:wr.drew.cell? ⟨p,5,none⟩=some (.int .i64 0):=p5
    have df:∀j,wr.drew.frozen? ⟨p,j,none⟩=false:=pf
    have dz:p<wr.drew.heap.size:=hpz.1
    refine wpAnyL_store rfl (by kernel_rfl) (by kernel_rfl) (fun KK hK=>?_)
    go_simp
    refine hK.out _ _ ?_
    clear hK KK hHeld r0 r1 r2 r3 r4 r5
    go_wp2_with fail
    refine bodyPost_ret (v:=.tuple #[.bool false,.agg (nvA x)]) (by simp[results,Tryd.results76,go_sem,nvA, *]) rfl ⟨?_,?_⟩
    ·rw[HNO.out];exact⟨x,rfl⟩
    ·exact((BF.out _ _ _ _ _ _).drew:Below w.heap.size w _)
   ·rw[hnum]at hn
    have hn':e=.returned (.tuple #[.bool true,.int .i64 v,.int .i64 ((i:Int)+n)]):=hn
    subst hn'
    have hnb:i+n<=s.size:=by
     have:=num_len hnum
     rw[List.length_drop,HLS.out]at this
     omega
    have HY:Hid (fit sh.data.toList s.data.toList nv0=fit (sh.data.toList.drop (k+1)) (s.data.toList.drop (i+n)) (setF x c v)):=(by rw[HST.out,HSG.out,hnum];simp only[List.drop_drop]:fit sh.data.toList s.data.toList nv0=fit (sh.data.toList.drop (k+1)) (s.data.toList.drop (i+n)) (setF x c v))
    obtain⟨m,hm⟩:∃m:Nat,i+n=m:=⟨_,rfl⟩
    have hm':(i:Int)+n=m:=by omega
    rw[hm']at hn⊢
    rw[hm]at HY hnb
    clear hn hm hm' hnum HST HSG hsg
    have hpq:p≠p+1:=by omega
    have hwq:w.heap.size<=p+1:=by have:=HP.out;omega
    rcases FD.out with rfl|rfl|rfl|rfl|rfl|rfl
    ·go_wp2_with fail
     go_roundw
     case rel=>
      refine⟨m,k+1,setF x 65 v,hnb,by omega,rfl,by go_num,F.out.put (j:=2) hwq hpq rfl,HY.out⟩
     case measure=>simp[intOf];omega
    ·go_wp2_with fail
     go_roundw
     case rel=>
      refine⟨m,k+1,setF x 66 v,hnb,by omega,rfl,by go_num,F.out.put (j:=3) hwq hpq rfl,HY.out⟩
     case measure=>simp[intOf];omega
    ·go_wp2_with fail
     go_roundw
     case rel=>
      refine⟨m,k+1,setF x 68 v,hnb,by omega,rfl,by go_num,F.out.put (j:=1) hwq hpq rfl,HY.out⟩
     case measure=>simp[intOf];omega
    ·go_wp2_with fail
     go_roundw
     case rel=>
      refine⟨m,k+1,setF x 72 v,hnb,by omega,rfl,by go_num,F.out.put (j:=5) hwq hpq rfl,HY.out⟩
     case measure=>simp[intOf];omega
    ·go_wp2_with fail
     go_roundw
     case rel=>
      refine⟨m,k+1,setF x 73 v,hnb,by omega,rfl,by go_num,F.out.put (j:=4) hwq hpq rfl,HY.out⟩
     case measure=>simp[intOf];omega
    ·go_wp2_with fail
     go_roundw
     case rel=>
      refine⟨m,k+1,setF x 64 v,hnb,by omega,rfl,by go_num,F.out.put (j:=4) hwq hpq rfl,HY.out⟩
     case measure=>simp[intOf];omega
end Go.Proofs.YtdbhgaegblclaaaDoor
