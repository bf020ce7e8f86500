import Derived.Test.YtdbhgaegblclaaaDoorRdLines
set_option maxHeartbeats 1600000
namespace Go.Proofs.YtdbhgaegblclaaaDoor
open Go.RowKit
abbrev RowN:=Row×Int
def rwN:RowN:=((false,nv0),0)
def atI(R:List RowN)(i:Nat):Nat:=cntI ((R.map Prod.fst).take i)
def rwC(R:List RowN)(i:Nat):Nat->Value
 |0=>.bool (R.getD i rwN).1.1
 |1=>.int .i64 (R.getD i rwN).2
 |2=>.int .i64 ((i:Int)+1)
 |3=>.int .i64 (atI R i:Int)
 |4=>.int .i64 (if(R.getD i rwN).1.1=true then 0 else(R.getD i rwN).1.2.op)
 |5=>.int .i64 (if(R.getD i rwN).1.1=true then 0 else(R.getD i rwN).1.2.d)
 |6=>.int .i64 (if(R.getD i rwN).1.1=true then 0 else(R.getD i rwN).1.2.a)
 |7=>.int .i64 (if(R.getD i rwN).1.1=true then 0 else(R.getD i rwN).1.2.b)
 |8=>.int .i64 (if(R.getD i rwN).1.1=true then 0 else(R.getD i rwN).1.2.imm)
 |_=>.int .i64 (if(R.getD i rwN).1.1=true then 0 else(R.getD i rwN).1.2.h)
def rwF(R:List RowN)(p:Nat):Value:=rwC R (p/10) (p%10)
theorem rwF_at(R:List RowN)(i j:Nat)(hj:j<10):rwF R (i*10+j)=rwC R i j:=by
 unfold rwF;rw[show(i*10+j)/10=i by omega,show(i*10+j)%10=j by omega]
def rwL(R:List RowN):List Value:=(List.range (R.length*10)).map (rwF R)
theorem rwL_len(R:List RowN):(rwL R).length=R.length*10:=by simp[rwL]
theorem rwL_at(R:List RowN)(p:Nat)(h:p<R.length*10):(rwL R)[p]?=some (rwF R p):=by simp[rwL,h]
theorem rwC_app(R:List RowN)(r:RowN)(i j:Nat)(h:i<R.length):rwC (R++[r]) i j=rwC R i j:=by
 have h1:(R++[r]).getD i rwN=R.getD i rwN:=by
  simp[List.getD_eq_getElem?_getD,List.getElem?_append_left h]
 have h2:atI (R++[r]) i=atI R i:=by
  unfold atI;rw[List.map_append,List.take_append_of_le_length (by simp;omega)]
 unfold rwC;rw[h1,h2]
theorem rwL_snoc(R:List RowN)(r:RowN):rwL R++[rwC (R++[r]) R.length 0,rwC (R++[r]) R.length 1,rwC (R++[r]) R.length 2,rwC (R++[r]) R.length 3,rwC (R++[r]) R.length 4,rwC (R++[r]) R.length 5,rwC (R++[r]) R.length 6,rwC (R++[r]) R.length 7,rwC (R++[r]) R.length 8,rwC (R++[r]) R.length 9]=rwL (R++[r]):=by
 apply List.ext_getElem?;intro p;by_cases hp:p<R.length*10
 ·rw[List.getElem?_append_left (by rw[rwL_len];exact hp),rwL_at R p hp,rwL_at _ p (by simp;omega)]
  congr 1
  show rwC R (p/10) (p%10)=rwC (R++[r]) (p/10) (p%10);rw[rwC_app R r _ _ (by omega)]
 ·rw[List.getElem?_append_right (by rw[rwL_len];omega),rwL_len]
  by_cases hq:p<R.length*10+10
  ·rw[rwL_at _ p (by simp;omega)]
   obtain⟨j,hj⟩:∃j,p=R.length*10+j:=⟨p-R.length*10,by omega⟩
   subst hj;rw[rwF_at _ _ _ (by omega),show R.length*10+j-R.length*10=j by omega];have hj:j<10:=by omega
   match j,hj with
   |0,_=>rfl
   |1,_=>rfl
   |2,_=>rfl
   |3,_=>rfl
   |4,_=>rfl
   |5,_=>rfl
   |6,_=>rfl
   |7,_=>rfl
   |8,_=>rfl
   |9,_=>rfl
  ·rw[List.getElem?_eq_none (by simp;omega),List.getElem?_eq_none (by rw[rwL_len];simp;omega)]
theorem getD_last(R:List RowN)(r:RowN):(R++[r]).getD R.length rwN=r:=by simp[List.getD_eq_getElem?_getD]
theorem atI_last(R:List RowN)(r:RowN):atI (R++[r]) R.length=cntI (R.map Prod.fst):=by
 unfold atI;rw[List.map_append,List.take_append_of_le_length (by simp),List.take_of_length_le (by simp)]
theorem cnt_snoc(rows:List Row)(r:Row):cntI (rows++[r])=cntI rows+(if r.1=true then 0 else 1):=by
 unfold cntI;rw[List.filter_append,List.length_append];congr 1
 cases h:r.1<;>simp[h]
theorem cnt_le(rows:List Row):cntI rows<=rows.length:=List.length_filter_le _ _
theorem lab_skip:∀(rows:List Row)(k a:Nat)(num:Int),(∀j,j<k->¬((rows.getD j (false,nv0)).1=true/\(rows.getD j (false,nv0)).2.imm=num))->k<=rows.length->labI rows a num=labI (rows.drop k) (a+cntI (rows.take k)) num
 |rows,0,a,num,_,_=>by simp[cntI]
 |[],k+1,a,num,_,h=>by simp at h
 |r::rows,k+1,a,num,h,hl=>by
  have h0:=h 0 (by omega);simp only[List.getD_cons_zero]at h0;have ih:=lab_skip rows k (if r.1=true then a else a+1) num (fun j hj=>by simpa using h (j+1) (by omega)) (by simpa using hl);show(if r.1=true/\r.2.imm=num then some a else labI rows (if r.1=true then a else a+1) num)=labI (rows.drop k) (a+cntI (r::rows.take k)) num;rw[if_neg h0,ih];congr 1
  unfold cntI;cases hr:r.1
  ·simp[hr];omega
  ·simp[hr]
theorem lab_none(rows:List Row)(num:Int)(h:∀j,j<rows.length->¬((rows.getD j (false,nv0)).1=true/\(rows.getD j (false,nv0)).2.imm=num)):labOf rows num=none:=by
 unfold labOf;rw[lab_skip rows rows.length 0 num h (Nat.le_refl _),List.drop_length];rfl
theorem lab_hit(rows:List Row)(k:Nat)(num:Int)(hk:k<rows.length)(h:∀j,j<k->¬((rows.getD j (false,nv0)).1=true/\(rows.getD j (false,nv0)).2.imm=num))(hh:(rows.getD k (false,nv0)).1=true/\(rows.getD k (false,nv0)).2.imm=num):labOf rows num=some (cntI (rows.take k)):=by
 unfold labOf;rw[lab_skip rows k 0 num h (by omega),List.drop_eq_getElem_cons hk];have e:rows[k]=rows.getD k (false,nv0):=by rw[List.getD_eq_getElem?_getD,List.getElem?_eq_getElem hk];rfl
 show(if rows[k].1=true/\rows[k].2.imm=num then some (0+cntI (rows.take k))else _)=_;rw[e,if_pos hh,Nat.zero_add]
theorem fst_at(R:List RowN)(j:Nat):(R.map Prod.fst).getD j (false,nv0)=(R.getD j rwN).1:=by
 simp only[List.getD_eq_getElem?_getD,List.getElem?_map];cases R[j]?<;>rfl
def FindR(r:Option Nat)(e:Ending):Prop:=
 match r with
 |some a=>e=.returned (.tuple #[.bool true,.int .i64 (a:Int)])
 |none=>e=.returned (.tuple #[.bool false,.int .i64 0])
theorem find_at(g off cap:Nat)(R:List RowN)(num:Int)(w:World)(hR:(R.length:Int)<=200000)(hlab:∀r∈R,r.1.1=true->r.2=r.1.2.imm)(hat:At w g off (R.length*10) (rwF R)):
 Calls Tryd.prog 51 #[.slice (some ⟨g,off,none⟩) R.length cap,.int .i64 num] w fun e w'=>FindR (labOf (R.map Prod.fst) num) e/\Below w.heap.size w w':=by
 have hb:=hat.lt;have HA:Hid (At w g off (R.length*10) (rwF R)):=hat;have HL:Hid (∀j,j<R.length->(R.getD j rwN).1.1=true->(R.getD j rwN).2=(R.getD j rwN).1.2.imm):=fun j hj=>by
  have hm:R.getD j rwN∈R:=by
   rw[List.getD_eq_getElem?_getD,List.getElem?_eq_getElem hj];exact List.getElem_mem hj
  exact hlab _ hm
 clear hat hlab;go_enter Tryd.func51,Tryd.ntmps51;go_wp2_with fail;go_loopw [6](fun iv wr=>Below w.heap.size w wr/\∃i:Nat,i<=R.length/\iv=.int .i64 i/\∀j,j<i->¬((R.getD j rwN).1.1=true/\(R.getD j rwN).1.2.imm=num))(fun iv _=>R.length-(intOf iv).toNat)
 case atStart=>exact⟨Below.refl _ _,0,Nat.zero_le _,rfl,fun j hj=>by omega⟩
 case round=>
  obtain⟨hbr,i,hi,rfl,hno⟩:=hrel;have NO:Hid (∀j,j<i->¬((R.getD j rwN).1.1=true/\(R.getD j rwN).1.2.imm=num)):=hno;clear hno;by_cases hlt:i<R.length
  rotate_left
  ·have hl1:¬(i:Int)<R.length:=by omega
   have HN:Hid (labOf (R.map Prod.fst) num=none):=lab_none _ _ fun j hj=>by rw[fst_at];exact NO.out j (by simp at hj;omega)
   go_wp2_with fail;go_ret2;refine⟨?_,hbr⟩;rw[HN.out];rfl
  have hl1:(i:Int)<R.length:=by omega
  obtain⟨lb,hlb⟩:∃b,(R.getD i rwN).1.1=b:=⟨_,rfl⟩
  obtain⟨nm,hnm⟩:∃n,(R.getD i rwN).2=n:=⟨_,rfl⟩
  have g0:wr.cell? ⟨g,off+i*10,none⟩=some (.bool lb):=(hbr.cell (p:=⟨g,off+i*10,none⟩) hb).trans ((HA.out.cell (i:=i*10+0) (by omega)).trans (by rw[rwF_at _ _ _ (by omega),<-hlb];rfl));have g1:wr.cell? ⟨g,off+i*10+1,none⟩=some (.int .i64 nm):=(hbr.cell (p:=⟨g,off+i*10+1,none⟩) hb).trans ((HA.out.cell (i:=i*10+1) (by omega)).trans (by rw[rwF_at _ _ _ (by omega),<-hnm];rfl));have g3:wr.cell? ⟨g,off+i*10+3,none⟩=some (.int .i64 (atI R i:Int)):=(hbr.cell (p:=⟨g,off+i*10+3,none⟩) hb).trans ((HA.out.cell (i:=i*10+3) (by omega)).trans (by rw[rwF_at _ _ _ (by omega)];rfl));have HLB:Hid ((R.getD i rwN).1.1=lb):=hlb;have HNM:Hid ((R.getD i rwN).2=nm):=hnm;clear hlb hnm;cases lb with
  |false=>
   go_wp2_with fail;go_roundw
   case rel=>
    refine⟨hbr,i+1,by omega,by go_num,fun j hj=>?_⟩;by_cases e:j=i
    ·subst e;rw[HLB.out];simp
    ·exact NO.out j (by omega)
   case measure=>simp[intOf];omega
  |true=>
   by_cases hn:nm=num
   ·have e1:(nm==num)=true:=by rw[hn];simp
    have HIT:Hid (labOf (R.map Prod.fst) num=some (atI R i)):=(by
     refine lab_hit _ i num (by simpa using hlt) (fun j hj=>by rw[fst_at];exact NO.out j hj) ?_;rw[fst_at];exact⟨HLB.out,by rw[<-HL.out i hlt HLB.out,HNM.out,hn]⟩:labOf (R.map Prod.fst) num=some (atI R i))
    clear hn;go_wp2_with fail;go_quiet(fail);go_wp2_with fail;go_ret2;refine⟨?_,below_drewN hbr _⟩;rw[HIT.out];rfl
   ·have e1:(nm==num)=false:=by rw[beq_eq_false_iff_ne];exact hn
    have HNE:Hid (¬nm=num):=hn;clear hn;go_wp2_with fail;go_roundw
    case rel=>
     refine⟨hbr,i+1,by omega,by go_num,fun j hj=>?_⟩;by_cases e:j=i
     ·subst e
      intro h;exact HNE.out (by rw[<-HNM.out,HL.out j hlt HLB.out];exact h.2)
     ·exact NO.out j (by omega)
    case measure=>simp[intOf];omega
theorem find_nil(ao:Option Addr)(cap:Nat)(num:Int)(w:World):
 Calls Tryd.prog 51 #[.slice ao 0 cap,.int .i64 num] w fun e w'=>FindR (labOf [] num) e/\Below w.heap.size w w':=by
 go_enter Tryd.func51,Tryd.ntmps51;go_wp2_with fail;go_loopw [6](fun iv wr=>wr=w/\iv=.int .i64 0)(fun _ _=>0)
 case atStart=>exact⟨rfl,rfl⟩
 case round=>
  obtain⟨hw,rfl⟩:=hrel;rw[hw];go_wp2_with fail;go_ret2;exact⟨rfl,Below.refl _ _⟩
theorem find_row{B:Nat}{v:Value}(R:List RowN)(num:Int)(w:World)(hR:(R.length:Int)<=200000)(hlab:∀r∈R,r.1.1=true->r.2=r.1.2.imm)(h:w.ownsRow B 80 10 v R.length (rwL R)):
 Calls Tryd.prog 51 #[v,.int .i64 num] w fun e w'=>FindR (labOf (R.map Prod.fst) num) e/\Below w.heap.size w w':=by
 by_cases h0:R=[]
 ·subst h0
  obtain⟨ao,cap,rfl⟩:=row_sl h;exact find_nil ao cap num w
 ·have hl:0<R.length:=by cases R with|nil=>exact absurd rfl h0|cons a b=>simp
  have h':=h;rcases h.2 with⟨rfl,hn⟩|⟨g,cap,cur,rfl,_⟩
  ·omega
  ·exact find_at g 0 cap R num w hR hlab ⟨(h'.lt g rfl).2,fun i hi=>by rw[Nat.zero_add,h'.cellAt i hi,rwL_at R i hi]⟩
end Go.Proofs.YtdbhgaegblclaaaDoor
