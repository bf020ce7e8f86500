import Derived.Test.YtdbhgaegblclaaaDoorRdRows
import Derived.Test.YtdbhgaegblclaaaDoorRdTake
import Derived.Test.YtdbhgaegblclaaaDoorOfFlatAny
set_option maxHeartbeats 12800000
set_option maxRecDepth 20000
namespace Go.Proofs.YtdbhgaegblclaaaDoor
open Go.RowKit
def inL(x:NV):List Value:=[.int .i64 x.op,.int .i64 x.d,.int .i64 x.a,.int .i64 x.b,.int .i64 x.imm,.int .i64 x.h]
def ci(xs:List NV):List Value:=xs.flatMap inL
theorem ci_len(xs:List NV):(ci xs).length=xs.length*6:=by
 induction xs with
 |nil=>rfl
 |cons a l ih=>show(inL a++ci l).length=(l.length+1)*6;rw[List.length_append,ih];show 6+_=_;omega
theorem ci_app(a b:List NV):ci (a++b)=ci a++ci b:=by simp[ci]
theorem ci_one(s:NV):ci [s]=inL s:=by simp[ci]
theorem ci_get:∀(xs:List NV)(p:Nat),p<xs.length*6->(ci xs)[p]?=some (insF (prF xs) p)
 |[],p,h=>by simp at h
 |x::xs,p,h=>by
  show(inL x++ci xs)[p]?=_;by_cases hp:p<6
  ·rw[List.getElem?_append_left (by show p<6;exact hp)]
   unfold insF prF;rw[show p/6=0 by omega,show p%6=p by omega];match p,hp with
   |0,_=>rfl
   |1,_=>rfl
   |2,_=>rfl
   |3,_=>rfl
   |4,_=>rfl
   |5,_=>rfl
  ·rw[List.getElem?_append_right (by show 6<=p;omega)]
   have ih:=ci_get xs (p-6) (by simp at h;omega);rw[show(inL x).length=6 from rfl,ih];unfold insF prF;rw[show(p-6)/6=p/6-1 by omega,show(p-6)%6=p%6 by omega];have:(x::xs).getD (p/6) nv0=xs.getD (p/6-1) nv0:=by
    rw[show p/6=(p/6-1)+1 by omega,List.getD_cons_succ];simp
   rw[this]
theorem ci_row{w:World}{B e g cap:Nat}{xs:List NV}(h:w.ownsRow B e 6 (.slice (some ⟨g,0,none⟩) xs.length cap) xs.length (ci xs)):At w g 0 (xs.length*6) (insF (prF xs)):=
 ⟨(h.lt g rfl).2,fun i hi=>by rw[Nat.zero_add,h.cellAt i hi,ci_get xs i hi]⟩
def ReadR(r:Int×Int×List NV)(B:Nat)(e:Ending)(w':World):Prop:=
 ∃v,e=.returned (.agg #[.int .i64 r.1,.int .i64 r.2.1,v])/\w'.ownsRow B 56 6 v r.2.2.length (ci r.2.2)
theorem rd_bad{r:Int×Int×List NV}{err ln:Int}{B:Nat}{w':World}(h:r=(err,ln,[])):ReadR r B (.returned (.agg #[.int .i64 err,.int .i64 ln,.slice none 0 0])) w':=by
 subst h;exact⟨_,rfl,World.ownsRow_nil _ _ _ _⟩
theorem specRead_long(b off cap:Nat)(t:List UInt8)(d:Int)(w:World)(h:100000<t.length∨inB d 0 1=false)(ht:(t.length:Int)<=1048576):
 Calls Tryd.prog 15 #[.slice (some ⟨b,off,none⟩) t.length cap,.int .i64 d] w fun e w'=>ReadR (rdA d t) w.heap.size e w'/\Below w.heap.size w w':=by
 have HR:Hid (rdA d t=(1,0,[])):=(by unfold rdA;rw[if_pos h]:rdA d t=(1,0,[]))
 by_cases hl:100000<t.length
 ·have hl1:(100000:Int)<t.length:=by omega
  clear h;go_enter Tryd.func15,Tryd.ntmps15;go_wp2_with fail;exact bodyPost_ret (v:=.agg #[.int .i64 1,.int .i64 0,.slice none 0 0]) (by simp[results,Tryd.results15,go_sem]) rfl ⟨rd_bad HR.out,(Below.refl _ _).alloc (Nat.le_refl _) _⟩
 ·have hl1:¬(100000:Int)<t.length:=by omega
  have hin:inB d 0 1=false:=by rcases h with h|h;·exact absurd h hl
                               ·exact h
  clear h;go_enter Tryd.func15,Tryd.ntmps15;go_wp2_with(first|(go_at_call 39;refine(in_any _ _ _ _).mono ?_;rintro e w2⟨rfl,hw2⟩;rw[hw2,hin];clear hw2));exact bodyPost_ret (v:=.agg #[.int .i64 1,.int .i64 0,.slice none 0 0]) (by simp[results,Tryd.results15,go_sem]) rfl ⟨rd_bad HR.out,(Below.refl _ _).alloc (Nat.le_refl _) _⟩
theorem lab_app:∀(rows:List Row)(r:Row)(a:Nat)(num:Int),labI (rows++[r]) a num=match labI rows a num with|some x=>some x|none=>if r.1=true/\r.2.imm=num then some (a+cntI rows)else none
 |[],r,a,num=>by
  show(if r.1=true/\r.2.imm=num then some a else none)=_;rfl
 |q::rows,r,a,num=>by
  show(if q.1=true/\q.2.imm=num then some a else labI (rows++[r]) (if q.1=true then a else a+1) num)=match(if q.1=true/\q.2.imm=num then some a else labI rows (if q.1=true then a else a+1) num)with|some x=>some x|none=>if r.1=true/\r.2.imm=num then some (a+cntI (q::rows))else none
  by_cases h:q.1=true/\q.2.imm=num
  ·rw[if_pos h,if_pos h]
  ·rw[if_neg h,if_neg h,lab_app rows r]
   have e:(if q.1=true then a else a+1)+cntI rows=a+cntI (q::rows):=by
    unfold cntI;cases hq:q.1<;>simp[hq]<;>omega
   rw[e]
def LU(R:List RowN):Prop:=∀i,i<R.length->(R.getD i rwN).1.1=true->labOf (R.map Prod.fst) (R.getD i rwN).1.2.imm=some (atI R i)
theorem LU.snoc{R:List RowN}{r:RowN}(h:LU R)(hr:r.1.1=true->labOf (R.map Prod.fst) r.1.2.imm=none):LU (R++[r]):=by
 intro i hi hl;rw[List.map_append,List.map_cons,List.map_nil];unfold labOf;rw[lab_app];by_cases e:i<R.length
 ·have e1:(R++[r]).getD i rwN=R.getD i rwN:=by simp[List.getD_eq_getElem?_getD,List.getElem?_append_left e]
  rw[e1]at hl⊢;have h1:=h i e hl;unfold labOf at h1;rw[h1];have e2:atI (R++[r]) i=atI R i:=by
   unfold atI;rw[List.map_append,List.take_append_of_le_length (by simp;omega)]
  rw[e2]
 ·have e0:i=R.length:=by simp at hi;omega
  subst e0;rw[getD_last]at hl⊢;have h1:=hr hl;unfold labOf at h1;rw[h1,if_pos ⟨hl,rfl⟩,atI_last,Nat.zero_add]
theorem split_len:∀(t cur:List UInt8),(splitL t cur).1.length+(if(splitL t cur).2.isEmpty=true then 0 else 1)<=cur.length+t.length/\(∀l∈(splitL t cur).1,l.length<=cur.length+t.length)/\(splitL t cur).2.length<=cur.length+t.length
 |[],cur=>by
  refine⟨?_,by simp[splitL],by simp[splitL]⟩;show 0+(if cur.isEmpty=true then 0 else 1)<=_;cases cur with
  |nil=>simp
  |cons a l=>simp
 |c::t,cur=>by
  by_cases hc:c.toNat=10
  ·have e:splitL (c::t) cur=(cur::(splitL t []).1,(splitL t []).2):=by show(if _ then _ else _)=_;rw[if_pos hc]
   obtain⟨h1,h2,h3⟩:=split_len t [];rw[e];refine⟨?_,?_,?_⟩
   ·simp only[List.length_cons,List.length_nil]at h1⊢;omega
   ·intro l hl
    rcases List.mem_cons.1 hl with rfl|hl
    ·simp
    ·have:=h2 l hl
     simp at this⊢;omega
   ·simp at h3⊢;omega
  ·have e:splitL (c::t) cur=splitL t (cur++[c]):=by show(if _ then _ else _)=_;rw[if_neg hc]
   obtain⟨h1,h2,h3⟩:=split_len t (cur++[c]);rw[e];simp only[List.length_append,List.length_cons,List.length_nil]at h1 h2 h3⊢;exact⟨by omega,fun l hl=>by have:=h2 l hl;omega,by omega⟩
theorem obj_two{w w':World}{p B e1 e2 s n:Nat}{cs:Array Value}{v:Value}{xs:List Value}(h1:w.heap[p]?=some (.cells cs e1))(h2:w.ownsRow B e2 s v n xs)(he:e1≠e2)(hg:w.grownBy w' v.ownBlock):w'.heap[p]?=some (.cells cs e1):=by
 refine(hg.block p (Array.getElem?_eq_some_iff.1 h1).1 fun hq=>?_).trans h1;rcases h2.2 with⟨rfl,_⟩|⟨g2,cap2,cur2,rfl,b1,b2,b3⟩
 ·cases hq
 ·have:p=g2:=by simpa[Value.ownBlock]using hq
  subst this;rw[h1]at b2;simp only[Option.some.injEq,Obj.cells.injEq]at b2;exact he b2.2.1
def rc(lb:Bool)(num ln at':Int)(x:NV):Array Value:=#[.bool lb,.int .i64 num,.int .i64 ln,.int .i64 at',.int .i64 x.op,.int .i64 x.d,.int .i64 x.a,.int .i64 x.b,.int .i64 x.imm,.int .i64 x.h]
structure SX(w:World)(p:Nat)(lv:Value)(A:List (List UInt8))(rv:Value)(R:List RowN)(v:World):Prop where
 bel:Below w.heap.size w v
 P:v.heap[p]?=some (.cells #[.int .i64 0,.int .i64 0,.slice none 0 0] 29)
 L:v.ownsRow w.heap.size 9 1 lv A.length (lnC A)
 O:v.ownsRow w.heap.size 80 10 rv R.length (rwL R)
 U:LU R
 B:∀r∈R,r.1.1=true->r.2=r.1.2.imm
theorem SX.below{w v v':World}{p:Nat}{lv rv:Value}{A:List (List UInt8)}{R:List RowN}(h:SX w p lv A rv R v)(hb:Below v.heap.size v v'):SX w p lv A rv R v':=
 ⟨h.bel.trans (hb.mono h.bel.size),(hb.block p (Array.getElem?_eq_some_iff.1 h.P).1).trans h.P,row_belowB h.L hb,row_belowB h.O hb,h.U,h.B⟩
theorem SX.pz{w v:World}{p:Nat}{lv rv:Value}{A:List (List UInt8)}{R:List RowN}(h:SX w p lv A rv R v):p<v.heap.size:=(Array.getElem?_eq_some_iff.1 h.P).1
theorem rdA_lines{d:Int}{t:List UInt8}{e:Int}{rows:List Row}(ht:(t.length:Int)<=100000)(hd:inB d 0 1=true)(h:rdT d t []=(e,rows))(he:e≠0):rdA d t=(e,(rows.length:Int)+1,[]):=by
 unfold rdA;rw[h,if_neg (by rw[hd];simp;omega),if_pos he]
theorem cells_newR(w:World)(cs:Array Value)(t:TypeId):∀(j:Nat)u,cs.toList[j]?=some u->(w.alloc (.cells cs t)).cell? ((⟨w.heap.size,0,none⟩:Addr).add j)=some u:=fun j u h=>by
 have hplain:(⟨w.heap.size,0,none⟩:Addr).add j=⟨w.heap.size,j,none⟩:=by unfold Addr.add;split<;>simp_all
 rw[hplain,hp_cell (heap_alloc_newB w _) j];simpa using h
theorem rwC_new(R:List RowN)(r:Row)(num:Int):[rwC (R++[(r,num)]) R.length 0,rwC (R++[(r,num)]) R.length 1,rwC (R++[(r,num)]) R.length 2,rwC (R++[(r,num)]) R.length 3,rwC (R++[(r,num)]) R.length 4,rwC (R++[(r,num)]) R.length 5,rwC (R++[(r,num)]) R.length 6,rwC (R++[(r,num)]) R.length 7,rwC (R++[(r,num)]) R.length 8,rwC (R++[(r,num)]) R.length 9]=[Value.bool r.1,.int .i64 num,.int .i64 ((R.length:Int)+1),.int .i64 (cntI (R.map Prod.fst):Int),.int .i64 (if r.1=true then nv0 else r.2).op,.int .i64 (if r.1=true then nv0 else r.2).d,.int .i64 (if r.1=true then nv0 else r.2).a,.int .i64 (if r.1=true then nv0 else r.2).b,.int .i64 (if r.1=true then nv0 else r.2).imm,.int .i64 (if r.1=true then nv0 else r.2).h]:=by
 unfold rwC;simp only[getD_last,atI_last];obtain⟨lb,x⟩:=r;cases lb<;>rfl
theorem prg_snoc{rows:List Row}{k:Nat}(hk:k<rows.length):prgI rows (rows.take (k+1))=prgI rows (rows.take k)++(if(rows.getD k (false,nv0)).1=true then[]else[toI rows (rows.getD k (false,nv0)).2]):=by
 have e:rows.getD k (false,nv0)=rows[k]:=by rw[List.getD_eq_getElem?_getD,List.getElem?_eq_getElem hk];rfl
 rw[e,List.take_add_one,List.getElem?_eq_getElem hk];unfold prgI;simp only[Option.toList_some,List.filter_append,List.map_append];congr 1
 cases h:rows[k].1<;>simp[h]
theorem prg_len(rows part:List Row):(prgI rows part).length<=part.length:=by
 unfold prgI;rw[List.length_map];exact List.length_filter_le _ _
theorem rdA_lost{d:Int}{t:List UInt8}{rows:List Row}{k:Int}(ht:(t.length:Int)<=100000)(hd:inB d 0 1=true)(h:rdT d t []=(0,rows))(hl:lostI rows=k)(hk:k≠0):rdA d t=(4,k,[]):=by
 unfold rdA;rw[h,if_neg (by rw[hd];simp;omega),if_neg (by simp),if_pos (by rw[hl];exact hk),hl]
theorem rdA_flat{d:Int}{t:List UInt8}{rows:List Row}{b:Bool}(ht:(t.length:Int)<=100000)(hd:inB d 0 1=true)(h:rdT d t []=(0,rows))(hl:lostI rows=0)(hf:flatOK (prgI rows rows).length (prF (prgI rows rows))=b):rdA d t=if b=true then(0,0,prgI rows rows)else(5,0,[]):=by
 unfold rdA;rw[h,if_neg (by rw[hd];simp;omega),if_neg (by simp),if_neg (by rw[hl];simp),hf]
structure GX(w:World)(p:Nat)(lv:Value)(A:List (List UInt8))(rv:Value)(R:List RowN)(k:Nat)(pv:Value)(v:World):Prop where
 S:SX w p lv A rv R v
 G:v.ownsRow w.heap.size 56 6 pv (prgI (R.map Prod.fst) ((R.map Prod.fst).take k)).length (ci (prgI (R.map Prod.fst) ((R.map Prod.fst).take k)))
 V:∃g c,pv=.slice (some ⟨g,0,none⟩) (prgI (R.map Prod.fst) ((R.map Prod.fst).take k)).length c
 F:∀j,j<k->lostR (R.map Prod.fst) (R.getD j rwN).1=false
theorem GX.below{w v v':World}{p k:Nat}{lv rv pv:Value}{A:List (List UInt8)}{R:List RowN}(h:GX w p lv A rv R k pv v)(hb:Below v.heap.size v v'):GX w p lv A rv R k pv v':=⟨h.S.below hb,row_belowB h.G hb,h.V,h.F⟩
theorem info_row:(Tryd.prog.info? 80).map (fun i=>(i.zero,i.size,i.bytes))=some (some (.agg #[.bool false,.int .i64 0,.int .i64 0,.int .i64 0,.int .i64 0,.int .i64 0,.int .i64 0,.int .i64 0,.int .i64 0,.int .i64 0]),10,80):=by kernel_rfl
theorem info_ins:(Tryd.prog.info? 56).map (fun i=>(i.zero,i.size,i.bytes))=some (some (.agg #[.int .i64 0,.int .i64 0,.int .i64 0,.int .i64 0,.int .i64 0,.int .i64 0]),6,48):=by kernel_rfl
theorem jump0:jumpB nv0.op=false:=by decide
structure RX(w:World)(p:Nat)(lv:Value)(A:List (List UInt8))(rv:Value)(R:List RowN)(rb bb:Nat)(ra:Array Value)(ln:Int)(v:World):Prop where
 S:SX w p lv A rv R v
 W:v.heap[rb]?=some (.cells ra 80)
 D:v.heap[bb]?=some (.cells #[.int .i64 2,.int .i64 ln,.slice none 0 0] 29)
theorem RX.below{w v v':World}{p rb bb:Nat}{lv rv:Value}{A:List (List UInt8)}{R:List RowN}{ra:Array Value}{ln:Int}(h:RX w p lv A rv R rb bb ra ln v)(hb:Below v.heap.size v v'):RX w p lv A rv R rb bb ra ln v':=
 ⟨h.S.below hb,(hb.block rb (Array.getElem?_eq_some_iff.1 h.W).1).trans h.W,(hb.block bb (Array.getElem?_eq_some_iff.1 h.D).1).trans h.D⟩
theorem SX.other{w v:World}{p q j:Nat}{lv rv val:Value}{A:List (List UInt8)}{R:List RowN}(h:SX w p lv A rv R v)(hq:w.heap.size<=q)(hp:p≠q)(hl:lv.ownBlock≠some q)(hr:rv.ownBlock≠some q):SX w p lv A rv R (v.setCell ⟨q,j,none⟩ val):=by
 have hg:v.grownBy (v.setCell ⟨q,j,none⟩ val) (some q):=⟨rfl,rfl,rfl,by simp,fun k _ hk=>heap_setCell_other _ _ _ _ (fun e=>hk (by rw[e]))⟩
 refine⟨h.bel.setCell hq _,hp_other h.P hp _ _,?_,?_,h.U,h.B⟩
 ·refine⟨h.L.1,?_⟩
  rcases h.L.2 with h'|⟨g,cp,cur,rfl,a1,a2,a3⟩
  ·exact .inl h'
  ·exact .inr ⟨g,cp,cur,rfl,a1,hp_other a2 (fun e=>hl (by rw[<-e];rfl)) _ _,a3⟩
 ·refine⟨h.O.1,?_⟩
  rcases h.O.2 with h'|⟨g,cp,cur,rfl,a1,a2,a3⟩
  ·exact .inl h'
  ·exact .inr ⟨g,cp,cur,rfl,a1,hp_other a2 (fun e=>hr (by rw[<-e];rfl)) _ _,a3⟩
def PR(w:World)(p:Nat)(lv:Value)(A:List (List UInt8))(rv:Value)(R:List RowN)(rb:Nat)(ln d:Int)(l:List UInt8)(num:Int)(n:Nat)(nv:Value)(wx:World):Prop:=
 ∃r:Row,rdLine d l=some r/\nv=.int .i64 (cntI (R.map Prod.fst++[r]):Int)/\(r.1=true->num=r.2.imm/\labOf (R.map Prod.fst) r.2.imm=none)/\RX w p lv A rv R rb (rb+1) (rc r.1 num ln n (if r.1=true then nv0 else r.2)) ln wx
theorem rdA_err{d:Int}{t:List UInt8}(ht:(t.length:Int)<=100000)(hd:inB d 0 1=true)(h:(rdT d t []).1≠0):rdA d t=((rdT d t []).1,((rdT d t []).2.length:Int)+1,[]):=by
 unfold rdA;rw[if_neg (by rw[hd];simp;omega),if_pos h]
theorem specRead_ok(b off cap:Nat)(t:List UInt8)(d:Int)(w:World)(ht:(t.length:Int)<=100000)(hd:d=0∨d=1)(hat:At w b off t.length (numF .u8 (bF t))):
 Calls Tryd.prog 15 #[.slice (some ⟨b,off,none⟩) t.length cap,.int .i64 d] w fun e w'=>ReadR (rdA d t) w.heap.size e w'/\Below w.heap.size w w':=by
 have hb:=hat.lt
 have HA:Hid (At w b off t.length (numF .u8 (bF t))):=hat
 have HD:Hid (d=0∨d=1):=hd
 have hin:inB d 0 1=true:=by unfold inB;rcases hd with rfl|rfl<;>rfl
 have hl1:¬(100000:Int)<t.length:=by omega
 clear hat hd
 obtain⟨iR,hi1,hi2,hi3,hi4⟩:∃i,Tryd.prog.info? 80=some i/\i.zero=some (.agg #[.bool false,.int .i64 0,.int .i64 0,.int .i64 0,.int .i64 0,.int .i64 0,.int .i64 0,.int .i64 0,.int .i64 0,.int .i64 0])/\i.size=10/\i.bytes=80:=by
  have:=info_row
  rcases hh:Tryd.prog.info? 80 with _|i
  ·rw[hh]at this;simp at this
  ·rw[hh]at this;simp at this;exact⟨i,rfl,this⟩
 have HIR:Hid (Tryd.prog.info? 80=some iR/\iR.zero=some (.agg #[.bool false,.int .i64 0,.int .i64 0,.int .i64 0,.int .i64 0,.int .i64 0,.int .i64 0,.int .i64 0,.int .i64 0,.int .i64 0])/\iR.size=10/\iR.bytes=80):=⟨hi1,hi2,hi3,hi4⟩
 clear hi1 hi2 hi3 hi4
 obtain⟨iS,hi1,hi2,hi3,hi4⟩:∃i,Tryd.prog.info? 56=some i/\i.zero=some (.agg #[.int .i64 0,.int .i64 0,.int .i64 0,.int .i64 0,.int .i64 0,.int .i64 0])/\i.size=6/\i.bytes=48:=by
  have:=info_ins
  rcases hh:Tryd.prog.info? 56 with _|i
  ·rw[hh]at this;simp at this
  ·rw[hh]at this;simp at this;exact⟨i,rfl,this⟩
 have HIS:Hid (Tryd.prog.info? 56=some iS/\iS.zero=some (.agg #[.int .i64 0,.int .i64 0,.int .i64 0,.int .i64 0,.int .i64 0,.int .i64 0])/\iS.size=6/\iS.bytes=48):=⟨hi1,hi2,hi3,hi4⟩
 clear hi1 hi2 hi3 hi4
 go_enter Tryd.func15,Tryd.ntmps15
 go_upto_region 3 with(first|(go_at_call 39;refine(in_any _ _ _ _).mono ?_;rintro e w2⟨rfl,hw2⟩;rw[hw2,hin];clear hw2))
 obtain⟨p,hp⟩:∃p,w.heap.size=p:=⟨_,rfl⟩
 obtain⟨w1,hw1,b1,P1⟩:∃v,w.alloc (.cells #[.int .i64 0,.int .i64 0,.slice none 0 0] 29)=v/\Below w.heap.size w v/\v.heap[p]?=some (.cells #[.int .i64 0,.int .i64 0,.slice none 0 0] 29):=
  ⟨_,rfl,(Below.refl _ _).alloc (Nat.le_refl _) _,by rw[<-hp];exact heap_alloc_newB w _⟩
 rw[hw1,hp]
 have HP:Hid (w.heap.size=p):=hp
 clear hw1 hp
 go_wp2_with fail
 refine(lines_any b off cap t w1 (by omega) (HA.out.below b1 hb)).mono ?_
 rintro e w2⟨⟨lv,rfl,hlr⟩,hb2⟩
 obtain⟨Ls,tl,hsp⟩:∃Ls tl,splitL t []=(Ls,tl):=⟨_,_,rfl⟩
 rw[hsp]at hlr⊢
 simp only at hlr⊢
 obtain⟨A,hA⟩:∃A,Ls++(if tl.isEmpty=true then[]else[tl])=A:=⟨_,rfl⟩
 rw[hA]at hlr
 have HRT:Hid (rdT d t []=rdLs d Ls (!tl.isEmpty) []):=(by
  have:=rdT_split d t [] [] (by simp)
  rw[List.nil_append,hsp]at this
  exact this:rdT d t []=rdLs d Ls (!tl.isEmpty) [])
 have HAA:Hid (Ls++(if tl.isEmpty=true then[]else[tl])=A):=hA
 obtain⟨wh,hwh⟩:∃wh,tl.isEmpty=wh:=⟨_,rfl⟩
 rw[hwh]at HRT HAA⊢
 have HWH:Hid (tl.isEmpty=wh):=hwh
 have hsl:=split_len t []
 rw[hsp]at hsl
 simp only[List.length_nil,Nat.zero_add,hwh]at hsl
 have HSZ:Hid (∀l∈A,l.length<=t.length):=(by
  rw[<-HAA.out]
  intro l hl
  rcases List.mem_append.1 hl with h|h
  ·exact hsl.2.1 l h
  ·cases wh with
   |true=>simp at h
   |false=>simp at h;subst h;exact hsl.2.2:∀l∈A,l.length<=t.length)
 have hal:A.length<=t.length/\A.length=Ls.length+(if wh=true then 0 else 1):=by
  rw[<-HAA.out]
  cases wh<;>simp at hsl⊢ <;>omega
 have HAL:Hid (A.length=Ls.length+(if wh=true then 0 else 1)):=hal.2
 have hal1:(A.length:Int)<=100000:=by omega
 have hls1:(Ls.length:Int)<=100000:=by
  have h9:=hal.2
  split at h9<;>omega
 clear hA hwh hsl hal hsp
 go_upto_region 5 with fail
 obtain⟨w3,hw3,X3⟩:∃v,w2.alloc (.cells #[] 80)=v/\Hid (SX w p lv A (.slice (some ⟨w2.heap.size,0,none⟩) 0 0) [] v):=by
  refine⟨_,rfl,?_⟩
  have h3:Below w2.heap.size w2 (w2.alloc (.cells #[] 80)):=(Below.refl _ _).alloc (Nat.le_refl _) _
  have hpz:p<w1.heap.size:=(Array.getElem?_eq_some_iff.1 P1).1
  have b2:Below w.heap.size w w2:=b1.trans (hb2.mono b1.size)
  refine(⟨b2.trans (h3.mono b2.size),?_,?_,row_new w2 _ _ b2.size,fun i hi=>by simp at hi,fun r hr=>by cases hr⟩:SX w p lv A _ [] _)
  ·rw[h3.block p (Nat.lt_of_lt_of_le hpz hb2.size),hb2.block p hpz];exact P1
  ·have h4:=row_belowB hlr h3
   refine⟨h4.1,?_⟩
   rcases h4.2 with h|⟨g,cp,cur,rfl,a1,a2⟩
   ·exact .inl h
   ·exact .inr ⟨g,cp,cur,rfl,Nat.le_trans b1.size a1,a2⟩
 rw[hw3]
 clear hw3 P1 hb2 hlr
 obtain⟨lao,lcap,hlv⟩:=row_sl X3.out.L
 subst hlv
 have HRT0:Hid (rdT d t []=rdLs d (Ls.drop 0) (!wh) (([]:List RowN).map Prod.fst)):=HRT.out
 go_wp2_with fail
 go_loopw [7,8,9,10,11,12,13,14,15,16](fun rv nv iv _ _ _ _ _ _ _ wr=>∃(i:Nat)(R:List RowN),i<=Ls.length/\R.length=i/\nv=.int .i64 (cntI (R.map Prod.fst):Int)/\iv=.int .i64 i/\SX w p (.slice lao A.length lcap) A rv R wr/\rdT d t []=rdLs d (Ls.drop i) (!wh) (R.map Prod.fst))(fun _ _ iv _ _ _ _ _ _ _ _=>A.length-(intOf iv).toNat)
 case atStart=>exact⟨0,[],Nat.zero_le _,rfl,rfl,rfl,X3.out,HRT0.out⟩
 case round=>
  clear X3 HRT HRT0
  obtain⟨i,R,hi,hRi,rfl,rfl,hx,hrd⟩:=hrel
  have X:Hid (SX w p (.slice lao A.length lcap) A u7 R wr):=hx
  have HRD:Hid (rdT d t []=rdLs d (Ls.drop i) (!wh) (R.map Prod.fst)):=hrd
  have HRI:Hid (R.length=i):=hRi
  have hpz:=hx.pz
  clear hx hrd hRi
  obtain⟨n,hn⟩:∃n,cntI (R.map Prod.fst)=n:=⟨_,rfl⟩
  have hnb:n<=i:=by rw[<-hn,<-HRI.out];have:=cnt_le (R.map Prod.fst);simpa using this
  have HN:Hid (cntI (R.map Prod.fst)=n):=hn
  rw[hn]
  clear hn
  by_cases hlt:i<A.length
  rotate_left
  ·have hl2:¬(i:Int)<A.length:=by omega
   have HR0:Hid (rdT d t []=(0,R.map Prod.fst)):=(by
    have h1:=HAL.out
    have h2:=HRD.out
    have hw:wh=true:=by
     cases wh with
     |true=>rfl
     |false=>simp at h1;omega
    rw[hw]at h1 h2
    rw[List.drop_eq_nil_of_le (by simp at h1;omega)]at h2
    exact h2:rdT d t []=(0,R.map Prod.fst))
   obtain⟨rao,rcap,hu7⟩:=row_sl X.out.O
   subst hu7
   have hwp:w.heap.size<=p:=Nat.le_of_eq HP.out
   have hRl:(R.length:Int)<=100000:=by have:=HRI.out;omega
   clear HRD hlt hpz
   go_upto_region 28 with fail
   obtain⟨wg,hwg,G0⟩:∃v,wr.alloc (.cells #[] 56)=v/\Hid (GX w p (.slice lao A.length lcap) A (.slice rao R.length rcap) R 0 (.slice (some ⟨wr.heap.size,0,none⟩) 0 0) v):=
    ⟨_,rfl,(⟨X.out.below ((Below.refl _ _).alloc (Nat.le_refl _) _),row_new wr _ _ X.out.bel.size,⟨_,_,rfl⟩,fun j hj=>by omega⟩:GX w p (.slice lao A.length lcap) A (.slice rao R.length rcap) R 0 (.slice (some ⟨wr.heap.size,0,none⟩) 0 0) _)⟩
   rw[hwg]
   clear hwg X
   go_wp2_with fail
   go_loopw [17,18,19,20,21](fun pv kv _ _ _ wq=>∃k:Nat,k<=R.length/\kv=.int .i64 k/\GX w p (.slice lao A.length lcap) A (.slice rao R.length rcap) R k pv wq)(fun _ kv _ _ _ _=>R.length-(intOf kv).toNat)
   case atStart=>exact⟨0,Nat.zero_le _,rfl,G0.out⟩
   case round=>
    clear G0
    obtain⟨k,hk,rfl,hg⟩:=hrel
    obtain⟨gp,cp,hpv⟩:=hg.V
    subst hpv
    have G:Hid (GX w p (.slice lao A.length lcap) A (.slice rao R.length rcap) R k (.slice (some ⟨gp,0,none⟩) (prgI (R.map Prod.fst) ((R.map Prod.fst).take k)).length cp) wr):=hg
    clear hg
    obtain⟨part,hpart⟩:∃x,prgI (R.map Prod.fst) ((R.map Prod.fst).take k)=x:=⟨_,rfl⟩
    have hpl:part.length<=k:=by
     rw[<-hpart]
     have:=prg_len (R.map Prod.fst) ((R.map Prod.fst).take k)
     simp at this
     omega
    have HPA:Hid (prgI (R.map Prod.fst) ((R.map Prod.fst).take k)=part):=hpart
    have GO:Hid (wr.ownsRow w.heap.size 56 6 (.slice (some ⟨gp,0,none⟩) part.length cp) part.length (ci part)):=(by have:=G.out.G;rw[hpart]at this;exact this:wr.ownsRow w.heap.size 56 6 (.slice (some ⟨gp,0,none⟩) part.length cp) part.length (ci part))
    rw[hpart]
    clear hpart
    by_cases hkl:k<R.length
    rotate_left
    ·have hkl1:¬(k:Int)<R.length:=by omega
     have HL0:Hid (lostI (R.map Prod.fst)=0):=lost_none fun j hj=>by rw[fst_at];exact G.out.F j (by simp at hj;omega)
     have HPR:Hid (prgI (R.map Prod.fst) (R.map Prod.fst)=part):=(by rw[<-HPA.out,List.take_of_length_le (by simp;omega)]:prgI (R.map Prod.fst) (R.map Prod.fst)=part)
     obtain⟨fo,hfo⟩:∃b,flatOK part.length (prF part)=b:=⟨_,rfl⟩
     have HRA:Hid (rdA d t=if fo=true then(0,0,part)else(5,0,[])):=(by
      have:=rdA_flat ht hin HR0.out HL0.out (b:=fo) (by rw[HPR.out];exact hfo)
      rw[HPR.out]at this
      exact this:rdA d t=if fo=true then(0,0,part)else(5,0,[]))
     have HFO:Hid (flatOK part.length (prF part)=fo):=hfo
     clear hfo
     go_upto_region 41 with fail
     go_wp2_with fail
     refine(specFlat_any gp 0 part.length cp (prF part) wr (by omega) (ci_row GO.out)).mono ?_
     rintro e w8⟨rfl,hb8⟩
     rw[HFO.out]
     have G8:=G.out.below hb8
     have O8:Hid (w8.ownsRow w.heap.size 56 6 (.slice (some ⟨gp,0,none⟩) part.length cp) part.length (ci part)):=row_belowB GO.out hb8
     have G8h:Hid (GX w p (.slice lao A.length lcap) A (.slice rao R.length rcap) R k (.slice (some ⟨gp,0,none⟩) (prgI (R.map Prod.fst) ((R.map Prod.fst).take k)).length cp) w8):=G8
     have hpz':p<w8.heap.size:=G8.S.pz
     have p0:=hp_cell G8.S.P 0
     have p1:=hp_cell G8.S.P 1
     have p2:=hp_cell G8.S.P 2
     have pf:=hp_free G8.S.P
     simp only[List.getElem?_toArray,List.getElem?_cons_zero,List.getElem?_cons_succ]at p0 p1 p2
     have BF:Hid (∀v0 v1 v2,Below w.heap.size w (((w8.setCell ⟨p,0,none⟩ v0).setCell ⟨p,1,none⟩ v1).setCell ⟨p,2,none⟩ v2)):=fun v0 v1 v2=>((G8.S.bel.setCell hwp _).setCell hwp _).setCell hwp _
     have hgp:gp≠p:=by
      intro e
      have h1:=G8.S.P
      rcases O8.out.2 with⟨h,_⟩|⟨g2,c2,cur2,h,_,h2,_⟩
      ·cases h
      ·have h3:=(Value.slice.inj h).1
       have h4:gp=g2:=by simpa using h3
       rw[<-h4,e,h1]at h2
       simp only[Option.some.injEq,Obj.cells.injEq]at h2
       exact absurd h2.2.1 (by decide)
     clear G8 hb8
     cases fo with
     |false=>
      have HR:Hid (rdA d t=(5,0,[])):=(by rw[HRA.out];rfl:rdA d t=(5,0,[]))
      go_wp2_with fail
      try simp only[Exit.inBlock,Exit.then]
      exact bodyPost_ret (v:=.agg #[.int .i64 5,.int .i64 0,.slice none 0 0]) (by simp[results,Tryd.results15,go_sem, *]) rfl ⟨rd_bad HR.out,BF.out _ _ _⟩
     |true=>
      have HR:Hid (rdA d t=(0,0,part)):=(by rw[HRA.out];rfl:rdA d t=(0,0,part))
      have O9:Hid (∀v0 v1 v2,(((w8.setCell ⟨p,0,none⟩ v0).setCell ⟨p,1,none⟩ v1).setCell ⟨p,2,none⟩ v2).ownsRow w.heap.size 56 6 (.slice (some ⟨gp,0,none⟩) part.length cp) part.length (ci part)):=fun v0 v1 v2=>by
       refine⟨O8.out.1,?_⟩
       rcases O8.out.2 with⟨h,_⟩|⟨g2,c2,cur2,h,h1,h2,h3⟩
       ·cases h
       ·have h4:gp=g2:=by simpa using(Value.slice.inj h).1
        exact .inr ⟨g2,c2,cur2,h,h1,hp_other (hp_other (hp_other h2 (by rw[<-h4];exact hgp) _ _) (by rw[<-h4];exact hgp) _ _) (by rw[<-h4];exact hgp) _ _,h3⟩
      go_wp2_with fail
      try simp only[Exit.inBlock,Exit.then]
      refine bodyPost_ret (v:=.agg #[.int .i64 0,.int .i64 0,.slice (some ⟨gp,0,none⟩) part.length cp]) (by simp[results,Tryd.results15,go_sem, *]) rfl ⟨?_,BF.out _ _ _⟩
      rw[HR.out]
      exact⟨_,rfl,O9.out _ _ _⟩
    have hkl1:(k:Int)<R.length:=by omega
    obtain⟨g7,hg7⟩:∃g,rao=some ⟨g,0,none⟩:=by
     rcases G.out.S.O.2 with⟨_,h0⟩|⟨g,cp,cur,h,_⟩
     ·omega
     ·exact⟨g,(Value.slice.inj h).1⟩
    subst hg7
    obtain⟨lb,hlb⟩:∃b,(R.getD k rwN).1.1=b:=⟨_,rfl⟩
    obtain⟨num,hnum⟩:∃n,(R.getD k rwN).2=n:=⟨_,rfl⟩
    obtain⟨x,hx⟩:∃x,(R.getD k rwN).1.2=x:=⟨_,rfl⟩
    obtain⟨y,hy⟩:∃y,(if lb=true then nv0 else x)=y:=⟨_,rfl⟩
    obtain⟨ak,hak⟩:∃a,atI R k=a:=⟨_,rfl⟩
    have cell:∀j,j<10->wr.cell? ⟨g7,k*10+j,none⟩=some (rwC R k j):=fun j hj=>by
     rw[G.out.S.O.cellAt (k*10+j) (by omega),rwL_at R _ (by omega),rwF_at R k j hj]
    have c0:wr.cell? ⟨g7,k*10,none⟩=some (.bool lb):=(cell 0 (by omega)).trans (by rw[<-hlb];rfl)
    have c1:wr.cell? ⟨g7,k*10+1,none⟩=some (.int .i64 num):=(cell 1 (by omega)).trans (by rw[<-hnum];rfl)
    have c2:wr.cell? ⟨g7,k*10+2,none⟩=some (.int .i64 ((k:Int)+1)):=cell 2 (by omega)
    have c3:wr.cell? ⟨g7,k*10+3,none⟩=some (.int .i64 ak):=(cell 3 (by omega)).trans (by rw[<-hak];rfl)
    have yy:∀(a b:Int),(if lb=true then a else b)=(if(R.getD k rwN).1.1=true then a else b):=fun a b=>by rw[hlb]
    have c4:wr.cell? ⟨g7,k*10+4,none⟩=some (.int .i64 y.op):=(cell 4 (by omega)).trans (by rw[<-hy,<-hx];show some (Value.int .i64 (if _ then _ else _))=_;rw[<-yy];cases lb<;>rfl)
    have c5:wr.cell? ⟨g7,k*10+5,none⟩=some (.int .i64 y.d):=(cell 5 (by omega)).trans (by rw[<-hy,<-hx];show some (Value.int .i64 (if _ then _ else _))=_;rw[<-yy];cases lb<;>rfl)
    have c6:wr.cell? ⟨g7,k*10+6,none⟩=some (.int .i64 y.a):=(cell 6 (by omega)).trans (by rw[<-hy,<-hx];show some (Value.int .i64 (if _ then _ else _))=_;rw[<-yy];cases lb<;>rfl)
    have c7:wr.cell? ⟨g7,k*10+7,none⟩=some (.int .i64 y.b):=(cell 7 (by omega)).trans (by rw[<-hy,<-hx];show some (Value.int .i64 (if _ then _ else _))=_;rw[<-yy];cases lb<;>rfl)
    have c8:wr.cell? ⟨g7,k*10+8,none⟩=some (.int .i64 y.imm):=(cell 8 (by omega)).trans (by rw[<-hy,<-hx];show some (Value.int .i64 (if _ then _ else _))=_;rw[<-yy];cases lb<;>rfl)
    have c9:wr.cell? ⟨g7,k*10+9,none⟩=some (.int .i64 y.h):=(cell 9 (by omega)).trans (by rw[<-hy,<-hx];show some (Value.int .i64 (if _ then _ else _))=_;rw[<-yy];cases lb<;>rfl)
    have HLB:Hid ((R.getD k rwN).1.1=lb):=hlb
    have HXX:Hid ((R.getD k rwN).1.2=x):=hx
    have HYY:Hid ((if lb=true then nv0 else x)=y):=hy
    have HAK:Hid (atI R k=ak):=hak
    have hg7z:g7<wr.heap.size:=(G.out.S.O.lt g7 rfl).2
    clear hlb hnum hx hy hak cell yy
    go_upto_region 32 with fail
    obtain⟨qb,hqb⟩:∃q,wr.heap.size=q:=⟨_,rfl⟩
    obtain⟨w8,hw8,G8,hq8⟩:∃v,wr.alloc (.cells #[.bool lb,.int .i64 num,.int .i64 ((k:Int)+1),.int .i64 ak,.int .i64 y.op,.int .i64 y.d,.int .i64 y.a,.int .i64 y.b,.int .i64 y.imm,.int .i64 y.h] 80)=v/\Hid (GX w p (.slice lao A.length lcap) A (.slice (some ⟨g7,0,none⟩) R.length rcap) R k (.slice (some ⟨gp,0,none⟩) (prgI (R.map Prod.fst) ((R.map Prod.fst).take k)).length cp) v)/\v.heap[qb]?=some (.cells #[.bool lb,.int .i64 num,.int .i64 ((k:Int)+1),.int .i64 ak,.int .i64 y.op,.int .i64 y.d,.int .i64 y.a,.int .i64 y.b,.int .i64 y.imm,.int .i64 y.h] 80):=
     ⟨_,rfl,G.out.below ((Below.refl _ _).alloc (Nat.le_refl _) _),by rw[<-hqb];exact heap_alloc_newB wr _⟩
    have hgq:p<qb/\gp<qb/\g7<qb/\w.heap.size<=qb:=by
     have h1:=G.out.S.pz
     have h2:=(GO.out.lt gp rfl).2
     have h3:=G.out.S.bel.size
     omega
    have hlq:∀q,(Value.slice lao A.length lcap).ownBlock=some q->q<qb:=fun q hq=>by
     have:=(G.out.S.L.lt q hq).2
     omega
    have HGQ:Hid (p<qb/\gp<qb/\g7<qb/\w.heap.size<=qb):=hgq
    have HLQ:Hid (∀q,(Value.slice lao A.length lcap).ownBlock=some q->q<qb):=hlq
    have GO8:Hid (w8.ownsRow w.heap.size 56 6 (.slice (some ⟨gp,0,none⟩) part.length cp) part.length (ci part)):=(by rw[<-hw8];exact row_belowB GO.out ((Below.refl _ _).alloc (Nat.le_refl _) _):w8.ownsRow w.heap.size 56 6 (.slice (some ⟨gp,0,none⟩) part.length cp) part.length (ci part))
    rw[hw8,hqb]
    have HQ8:Hid (w8.heap[qb]?=some (.cells #[.bool lb,.int .i64 num,.int .i64 ((k:Int)+1),.int .i64 ak,.int .i64 y.op,.int .i64 y.d,.int .i64 y.a,.int .i64 y.b,.int .i64 y.imm,.int .i64 y.h] 80)):=hq8
    have hqz:qb<w8.heap.size:=(Array.getElem?_eq_some_iff.1 hq8).1
    have HLK:Hid (lostR (R.map Prod.fst) (R.getD k rwN).1=((lb||jumpB x.op)&&(match labOf (R.map Prod.fst) x.imm with|some a=>a==n|none=>true))):=(by
     unfold lostR
     rw[HLB.out,HXX.out,HN.out]
     cases labOf (R.map Prod.fst) x.imm<;>rfl:lostR (R.map Prod.fst) (R.getD k rwN).1=((lb||jumpB x.op)&&(match labOf (R.map Prod.fst) x.imm with|some a=>a==n|none=>true)))
    have HNX:Hid (∀pv v,SX w p (.slice lao A.length lcap) A (.slice (some ⟨g7,0,none⟩) R.length rcap) R v->v.ownsRow w.heap.size 56 6 pv (part++(if lb=true then[]else[toI (R.map Prod.fst) x])).length (ci (part++(if lb=true then[]else[toI (R.map Prod.fst) x])))->(∃g c,pv=.slice (some ⟨g,0,none⟩) (part++(if lb=true then[]else[toI (R.map Prod.fst) x])).length c)->lostR (R.map Prod.fst) (R.getD k rwN).1=false->GX w p (.slice lao A.length lcap) A (.slice (some ⟨g7,0,none⟩) R.length rcap) R (k+1) pv v):=fun pv v h1 h2 h3 h4=>by
     have e:prgI (R.map Prod.fst) ((R.map Prod.fst).take (k+1))=part++(if lb=true then[]else[toI (R.map Prod.fst) x]):=by
      rw[prg_snoc (by simpa using hkl),HPA.out,fst_at,HLB.out,HXX.out]
     refine⟨h1,by rw[e];exact h2,by rw[e];exact h3,fun j hj=>?_⟩
     by_cases ej:j=k
     ·subst ej;exact h4
     ·exact G.out.F j (by omega)
    clear hw8 hqb c0 c1 c2 c3 c4 c5 c6 c7 c8 c9 hq8 hgq hlq
    have q0:=hp_cell HQ8.out 0
    have q2:=hp_cell HQ8.out 2
    have q3:=hp_cell HQ8.out 3
    have q4:=hp_cell HQ8.out 4
    have q5:=hp_cell HQ8.out 5
    have q6:=hp_cell HQ8.out 6
    have q7:=hp_cell HQ8.out 7
    have q8:=hp_cell HQ8.out 8
    have q9:=hp_cell HQ8.out 9
    have qf:=hp_free HQ8.out
    simp only[List.getElem?_toArray,List.getElem?_cons_zero,List.getElem?_cons_succ]at q0 q2 q3 q4 q5 q6 q7 q8 q9
    cases lb with
    |true=>
     have hlu:labOf (R.map Prod.fst) x.imm=some ak:=by
      have:=G.out.S.U k hkl HLB.out
      rw[HXX.out,HAK.out]at this
      exact this
     have HLU:Hid (labOf (R.map Prod.fst) x.imm=some ak):=hlu
     clear hlu
     by_cases han:ak=n
     ·have e1:((ak:Int)==n)=true:=by rw[han];simp
      have HR:Hid (rdA d t=(4,(k:Int)+1,[])):=rdA_lost ht hin HR0.out (lost_first (by simpa using hkl) (fun j hj=>by rw[fst_at];exact G.out.F j hj) (by rw[fst_at,HLK.out,HLU.out,han];simp)) (by omega)
      clear han q4 q5 q6 q7 q8 q9 qf
      have hpz':p<w8.heap.size:=G8.out.S.pz
      have p0:=hp_cell G8.out.S.P 0
      have p1:=hp_cell G8.out.S.P 1
      have p2:=hp_cell G8.out.S.P 2
      have pf:=hp_free G8.out.S.P
      simp only[List.getElem?_toArray,List.getElem?_cons_zero,List.getElem?_cons_succ]at p0 p1 p2
      have BF:Hid (∀v0 v1 v2,Below w.heap.size w (((w8.setCell ⟨p,0,none⟩ v0).setCell ⟨p,1,none⟩ v1).setCell ⟨p,2,none⟩ v2)):=fun v0 v1 v2=>((G8.out.S.bel.setCell hwp _).setCell hwp _).setCell hwp _
      go_wp2_with fail
      try simp only[Exit.inBlock,Exit.then]
      exact bodyPost_ret (v:=.agg #[.int .i64 4,.int .i64 ((k:Int)+1),.slice none 0 0]) (by simp[results,Tryd.results15,go_sem, *]) rfl ⟨rd_bad HR.out,BF.out _ _ _⟩
     ·have e1:((ak:Int)==n)=false:=by rw[beq_eq_false_iff_ne];omega
      have HNX2:Hid (GX w p (.slice lao A.length lcap) A (.slice (some ⟨g7,0,none⟩) R.length rcap) R (k+1) (.slice (some ⟨gp,0,none⟩) part.length cp) w8):=HNX.out _ _ G8.out.S (by simpa using GO8.out) ⟨gp,cp,by simp⟩ (by rw[HLK.out,HLU.out];simp[han])
      clear han q4 q5 q6 q7 q8 q9 qf
      go_wp2_with fail
      go_roundw
      case rel=>exact⟨k+1,by omega,by go_num,HNX2.out⟩
      case measure=>simp[intOf];omega
    |false=>
     have hyx:x=y:=by have:=HYY.out;simpa using this
     subst hyx
     cases hj:jumpB x.op with
     |false=>
      go_upto_region 39 with(first|(go_at_call 36;refine(jump_any _ _).mono ?_;rintro e wj⟨rfl,hwj⟩;rw[hwj,hj];clear hwj))
      have OA:Hid (∀o,(w8.alloc o).ownsRow w.heap.size 56 6 (.slice (some ⟨gp,0,none⟩) part.length cp) part.length (ci part)):=fun o=>row_belowB GO8.out ((Below.refl _ _).alloc (Nat.le_refl _) _)
      have XA:Hid (∀o,SX w p (.slice lao A.length lcap) A (.slice (some ⟨g7,0,none⟩) R.length rcap) R (w8.alloc o)):=fun o=>G8.out.S.below ((Below.refl _ _).alloc (Nat.le_refl _) _)
      have hBa:∀o,w.heap.size<=(w8.alloc o).heap.size:=fun o=>((XA.out o).bel).size
      have HCN:Hid (∀j u,[Value.int .i64 x.op,.int .i64 x.d,.int .i64 x.a,.int .i64 x.b,.int .i64 x.imm,.int .i64 x.h][j]?=some u->(w8.alloc (.cells #[.int .i64 x.op,.int .i64 x.d,.int .i64 x.a,.int .i64 x.b,.int .i64 x.imm,.int .i64 x.h] 56)).cell? ((⟨w8.heap.size,0,none⟩:Addr).add j)=some u):=cells_newR w8 _ _
      have HTO:Hid (toI (R.map Prod.fst) x=x):=(by unfold toI;rw[hj];rfl:toI (R.map Prod.fst) x=x)
      have HLF:Hid (lostR (R.map Prod.fst) (R.getD k rwN).1=false):=(by rw[HLK.out,hj];rfl:lostR (R.map Prod.fst) (R.getD k rwN).1=false)
      go_wp2_with(first|(at_builtin;refine wpList_append_own_at _ rfl _ _ 23 rfl w.heap.size 56 iS _ 6 48 Tryd.underlying23 HIS.out.1 HIS.out.2.1 HIS.out.2.2.1 HIS.out.2.2.2 rfl (by decide) _ _ _ rfl (OA.out _) ⟨w8.heap.size,0,none⟩ 1 1 [Value.int .i64 x.op,.int .i64 x.d,.int .i64 x.a,.int .i64 x.b,.int .i64 x.imm,.int .i64 x.h] rfl rfl HCN.out ?c2 ?c3 ?c4 (hBa _) ?_))
      case c2=>simp[Value.oneCell']
      case c3=>unfold maxLen;omega
      case c4=>omega
      intro v' w12 hown hgrow _ _
      have N12:Hid (GX w p (.slice lao A.length lcap) A (.slice (some ⟨g7,0,none⟩) R.length rcap) R (k+1) v' w12):=(by
       have hxa:=XA.out (.cells #[.int .i64 x.op,.int .i64 x.d,.int .i64 x.a,.int .i64 x.b,.int .i64 x.imm,.int .i64 x.h] 56)
       have hoa:=OA.out (.cells #[.int .i64 x.op,.int .i64 x.d,.int .i64 x.a,.int .i64 x.b,.int .i64 x.imm,.int .i64 x.h] 56)
       have ho:w12.ownsRow w.heap.size 56 6 v' (part++[toI (R.map Prod.fst) x]).length (ci (part++[toI (R.map Prod.fst) x])):=by
        rw[HTO.out,ci_app,ci_one,List.length_append]
        exact hown
       refine HNX.out v' w12 ⟨hxa.bel.grown hgrow hxa.bel.size (fun k hk=>(hoa.lt k hk).1),obj_two hxa.P hoa (by decide) hgrow,row_two hxa.L hoa (by decide) hgrow,row_two hxa.O hoa (by decide) hgrow,hxa.U,hxa.B⟩ ?_ ?_ HLF.out
       ·exact ho
       ·rcases ho.2 with⟨_,h0⟩|⟨g2,c2,cur2,h,_⟩
        ·simp at h0
        ·exact⟨g2,c2,h⟩:GX w p (.slice lao A.length lcap) A (.slice (some ⟨g7,0,none⟩) R.length rcap) R (k+1) v' w12)
      clear hown hgrow q0 q2 q3 q4 q5 q6 q7 q8 q9 qf
      go_wp2_with fail
      go_roundw
      case rel=>exact⟨k+1,by omega,by go_num,N12.out⟩
      case measure=>simp[intOf];omega
     |true=>
      go_upto_region 35 with(first|(go_at_call 36;refine(jump_any _ _).mono ?_;rintro e wj⟨rfl,hwj⟩;rw[hwj,hj];clear hwj))
      go_wp2_with fail
      refine(find_row R x.imm w8 (by omega) G8.out.S.B G8.out.S.O).mono ?_
      rintro e w9⟨hf,hb9⟩
      have G9:Hid (GX w p (.slice lao A.length lcap) A (.slice (some ⟨g7,0,none⟩) R.length rcap) R k (.slice (some ⟨gp,0,none⟩) (prgI (R.map Prod.fst) ((R.map Prod.fst).take k)).length cp) w9):=G8.out.below hb9
      have HQ9:Hid (w9.heap[qb]?=some (.cells #[.bool false,.int .i64 num,.int .i64 ((k:Int)+1),.int .i64 ak,.int .i64 x.op,.int .i64 x.d,.int .i64 x.a,.int .i64 x.b,.int .i64 x.imm,.int .i64 x.h] 80)):=(hb9.block qb hqz).trans HQ8.out
      have GO9:Hid (w9.ownsRow w.heap.size 56 6 (.slice (some ⟨gp,0,none⟩) part.length cp) part.length (ci part)):=row_belowB GO8.out hb9
      have hqz9:qb<w9.heap.size:=Nat.lt_of_lt_of_le hqz hb9.size
      clear hb9 q0 q2 q3 q4 q5 q6 q7 q8 q9 qf
      have q0:=hp_cell HQ9.out 0
      have q2:=hp_cell HQ9.out 2
      have q3:=hp_cell HQ9.out 3
      have q4:=hp_cell HQ9.out 4
      have q5:=hp_cell HQ9.out 5
      have q6:=hp_cell HQ9.out 6
      have q7:=hp_cell HQ9.out 7
      have q8:=hp_cell HQ9.out 8
      have q9:=hp_cell HQ9.out 9
      have qf:=hp_free HQ9.out
      simp only[List.getElem?_toArray,List.getElem?_cons_zero,List.getElem?_cons_succ]at q0 q2 q3 q4 q5 q6 q7 q8 q9
      rcases hlo:labOf (R.map Prod.fst) x.imm with _|a
      ·rw[hlo]at hf
       have hf':e=.returned (.tuple #[.bool false,.int .i64 0]):=hf
       subst hf'
       have HR:Hid (rdA d t=(4,(k:Int)+1,[])):=rdA_lost ht hin HR0.out (lost_first (by simpa using hkl) (fun j hj=>by rw[fst_at];exact G.out.F j hj) (by rw[fst_at,HLK.out,hj,hlo];simp)) (by omega)
       clear hf hlo q4 q5 q6 q7 q8 q9 qf
       have hpz':p<w9.heap.size:=G9.out.S.pz
       have p0:=hp_cell G9.out.S.P 0
       have p1:=hp_cell G9.out.S.P 1
       have p2:=hp_cell G9.out.S.P 2
       have pf:=hp_free G9.out.S.P
       simp only[List.getElem?_toArray,List.getElem?_cons_zero,List.getElem?_cons_succ]at p0 p1 p2
       have BF:Hid (∀v0 v1 v2,Below w.heap.size w (((w9.setCell ⟨p,0,none⟩ v0).setCell ⟨p,1,none⟩ v1).setCell ⟨p,2,none⟩ v2)):=fun v0 v1 v2=>((G9.out.S.bel.setCell hwp _).setCell hwp _).setCell hwp _
       go_wp2_with fail
       try simp only[Exit.inBlock,Exit.then]
       exact bodyPost_ret (v:=.agg #[.int .i64 4,.int .i64 ((k:Int)+1),.slice none 0 0]) (by simp[results,Tryd.results15,go_sem, *]) rfl ⟨rd_bad HR.out,BF.out _ _ _⟩
      ·rw[hlo]at hf
       have hf':e=.returned (.tuple #[.bool true,.int .i64 (a:Int)]):=hf
       subst hf'
       have HLO:Hid (labOf (R.map Prod.fst) x.imm=some a):=hlo
       clear hf hlo
       by_cases han:a=n
       ·have e1:((a:Int)==n)=true:=by rw[han];simp
        have HR:Hid (rdA d t=(4,(k:Int)+1,[])):=rdA_lost ht hin HR0.out (lost_first (by simpa using hkl) (fun j hj=>by rw[fst_at];exact G.out.F j hj) (by rw[fst_at,HLK.out,hj,HLO.out,han];simp)) (by omega)
        clear han q4 q5 q6 q7 q8 q9 qf
        have hpz':p<w9.heap.size:=G9.out.S.pz
        have p0:=hp_cell G9.out.S.P 0
        have p1:=hp_cell G9.out.S.P 1
        have p2:=hp_cell G9.out.S.P 2
        have pf:=hp_free G9.out.S.P
        simp only[List.getElem?_toArray,List.getElem?_cons_zero,List.getElem?_cons_succ]at p0 p1 p2
        have BF:Hid (∀v0 v1 v2,Below w.heap.size w (((w9.setCell ⟨p,0,none⟩ v0).setCell ⟨p,1,none⟩ v1).setCell ⟨p,2,none⟩ v2)):=fun v0 v1 v2=>((G9.out.S.bel.setCell hwp _).setCell hwp _).setCell hwp _
        go_wp2_with fail
        try simp only[Exit.inBlock,Exit.then]
        exact bodyPost_ret (v:=.agg #[.int .i64 4,.int .i64 ((k:Int)+1),.slice none 0 0]) (by simp[results,Tryd.results15,go_sem, *]) rfl ⟨rd_bad HR.out,BF.out _ _ _⟩
       ·have e1:((a:Int)==n)=false:=by rw[beq_eq_false_iff_ne];omega
        have HAN:Hid (¬a=n):=han
        clear han
        go_upto_region 39 with fail
        obtain⟨w10,hw10,S10,GO10,HQ10⟩:∃v,w9.setCell ⟨qb,8,none⟩ (.int .i64 a)=v/\SX w p (.slice lao A.length lcap) A (.slice (some ⟨g7,0,none⟩) R.length rcap) R v/\Hid (v.ownsRow w.heap.size 56 6 (.slice (some ⟨gp,0,none⟩) part.length cp) part.length (ci part))/\v.heap[qb]?=some (.cells #[.bool false,.int .i64 num,.int .i64 ((k:Int)+1),.int .i64 ak,.int .i64 x.op,.int .i64 x.d,.int .i64 x.a,.int .i64 x.b,.int .i64 a,.int .i64 x.h] 80):=by
         obtain⟨h1,h2,h3,h4⟩:=HGQ.out
         refine⟨_,rfl,G9.out.S.other h4 (by omega) (fun e=>by have:=HLQ.out _ e;omega) (by simp[Value.ownBlock];omega),?_,?_⟩
         ·refine(⟨GO9.out.1,?_⟩:World.ownsRow _ _ _ _ _ _ _)
          rcases GO9.out.2 with⟨h,_⟩|⟨g2,c2,cur2,h,a1,a2,a3⟩
          ·cases h
          ·have h5:gp=g2:=by simpa using(Value.slice.inj h).1
           exact .inr ⟨g2,c2,cur2,h,a1,hp_other a2 (by omega) _ _,a3⟩
         ·have:=hp_set HQ9.out 8 (.int .i64 a)
          exact this
        rw[hw10]
        clear hw10 q0 q2 q3 q4 q5 q6 q7 q8 q9 qf
        have q0:=hp_cell HQ10 0
        have q2:=hp_cell HQ10 2
        have q3:=hp_cell HQ10 3
        have q4:=hp_cell HQ10 4
        have q5:=hp_cell HQ10 5
        have q6:=hp_cell HQ10 6
        have q7:=hp_cell HQ10 7
        have q8:=hp_cell HQ10 8
        have q9:=hp_cell HQ10 9
        have qf:=hp_free HQ10
        simp only[List.getElem?_toArray,List.getElem?_cons_zero,List.getElem?_cons_succ]at q0 q2 q3 q4 q5 q6 q7 q8 q9
        have OA:Hid (∀o,(w10.alloc o).ownsRow w.heap.size 56 6 (.slice (some ⟨gp,0,none⟩) part.length cp) part.length (ci part)):=fun o=>row_belowB GO10.out ((Below.refl _ _).alloc (Nat.le_refl _) _)
        have XA:Hid (∀o,SX w p (.slice lao A.length lcap) A (.slice (some ⟨g7,0,none⟩) R.length rcap) R (w10.alloc o)):=fun o=>S10.below ((Below.refl _ _).alloc (Nat.le_refl _) _)
        have hBa:∀o,w.heap.size<=(w10.alloc o).heap.size:=fun o=>((XA.out o).bel).size
        have HCN:Hid (∀j u,[Value.int .i64 x.op,.int .i64 x.d,.int .i64 x.a,.int .i64 x.b,.int .i64 a,.int .i64 x.h][j]?=some u->(w10.alloc (.cells #[.int .i64 x.op,.int .i64 x.d,.int .i64 x.a,.int .i64 x.b,.int .i64 a,.int .i64 x.h] 56)).cell? ((⟨w10.heap.size,0,none⟩:Addr).add j)=some u):=cells_newR w10 _ _
        have HTO:Hid (toI (R.map Prod.fst) x={x with imm:=(a:Int)}):=(by unfold toI;rw[hj,HLO.out];rfl:toI (R.map Prod.fst) x={x with imm:=(a:Int)})
        have HLF:Hid (lostR (R.map Prod.fst) (R.getD k rwN).1=false):=(by rw[HLK.out,hj,HLO.out];simp[HAN.out]:lostR (R.map Prod.fst) (R.getD k rwN).1=false)
        go_wp2_with(first|(at_builtin;refine wpList_append_own_at _ rfl _ _ 23 rfl w.heap.size 56 iS _ 6 48 Tryd.underlying23 HIS.out.1 HIS.out.2.1 HIS.out.2.2.1 HIS.out.2.2.2 rfl (by decide) _ _ _ rfl (OA.out _) ⟨w10.heap.size,0,none⟩ 1 1 [Value.int .i64 x.op,.int .i64 x.d,.int .i64 x.a,.int .i64 x.b,.int .i64 a,.int .i64 x.h] rfl rfl HCN.out ?c2 ?c3 ?c4 (hBa _) ?_))
        case c2=>simp[Value.oneCell']
        case c3=>unfold maxLen;omega
        case c4=>omega
        intro v' w12 hown hgrow _ _
        have N12:Hid (GX w p (.slice lao A.length lcap) A (.slice (some ⟨g7,0,none⟩) R.length rcap) R (k+1) v' w12):=(by
         have hxa:=XA.out (.cells #[.int .i64 x.op,.int .i64 x.d,.int .i64 x.a,.int .i64 x.b,.int .i64 a,.int .i64 x.h] 56)
         have hoa:=OA.out (.cells #[.int .i64 x.op,.int .i64 x.d,.int .i64 x.a,.int .i64 x.b,.int .i64 a,.int .i64 x.h] 56)
         have ho:w12.ownsRow w.heap.size 56 6 v' (part++[toI (R.map Prod.fst) x]).length (ci (part++[toI (R.map Prod.fst) x])):=by
          rw[HTO.out,ci_app,ci_one,List.length_append]
          exact hown
         refine HNX.out v' w12 ⟨hxa.bel.grown hgrow hxa.bel.size (fun k hk=>(hoa.lt k hk).1),obj_two hxa.P hoa (by decide) hgrow,row_two hxa.L hoa (by decide) hgrow,row_two hxa.O hoa (by decide) hgrow,hxa.U,hxa.B⟩ ?_ ?_ HLF.out
         ·exact ho
         ·rcases ho.2 with⟨_,h0⟩|⟨g2,c2,cur2,h,_⟩
          ·simp at h0
          ·exact⟨g2,c2,h⟩:GX w p (.slice lao A.length lcap) A (.slice (some ⟨g7,0,none⟩) R.length rcap) R (k+1) v' w12)
        clear hown hgrow q0 q2 q3 q4 q5 q6 q7 q8 q9 qf
        go_wp2_with fail
        go_roundw
        case rel=>exact⟨k+1,by omega,by go_num,N12.out⟩
        case measure=>simp[intOf];omega
  have hl2:(i:Int)<A.length:=by omega
  obtain⟨l,hl⟩:∃l,A[i]?=some l:=⟨_,List.getElem?_eq_getElem hlt⟩
  obtain⟨g,hg⟩:∃g,lao=some ⟨g,0,none⟩:=by
   rcases X.out.L.2 with⟨_,h0⟩|⟨g,cp,cur,h,_⟩
   ·omega
   ·exact⟨g,(Value.slice.inj h).1⟩
  subst hg
  have hlc:wr.cell? ⟨g,i,none⟩=some (.string (stB l)):=by
   rw[X.out.L.cellAt i (by omega)]
   unfold lnC
   rw[List.getElem?_map,hl]
   rfl
  have hlz:((stB l).size:Int)<=200000:=by
   have h1:=HSZ.out l (List.mem_of_getElem? hl)
   have:(stB l).size=l.length:=by show l.toArray.size=_;simp
   omega
  have HLA:Hid (A[i]?=some l):=hl
  have hgz:g<wr.heap.size:=(X.out.L.lt g rfl).2
  clear hl
  go_upto_region 11 with fail
  obtain⟨rb,hrb⟩:∃q,wr.heap.size=q:=⟨_,rfl⟩
  obtain⟨w4,hw4,X4⟩:∃v,(wr.alloc (.cells (rc false 0 ((i:Int)+1) n nv0) 80)).alloc (.cells #[.int .i64 2,.int .i64 ((i:Int)+1),.slice none 0 0] 29)=v/\Hid (RX w p (.slice (some ⟨g,0,none⟩) A.length lcap) A u7 R rb (rb+1) (rc false 0 ((i:Int)+1) n nv0) ((i:Int)+1) v):=by
   refine⟨_,rfl,?_⟩
   have h1:Below wr.heap.size wr (wr.alloc (.cells (rc false 0 ((i:Int)+1) n nv0) 80)):=(Below.refl _ _).alloc (Nat.le_refl _) _
   have h2:Below (wr.alloc (.cells (rc false 0 ((i:Int)+1) n nv0) 80)).heap.size (wr.alloc (.cells (rc false 0 ((i:Int)+1) n nv0) 80)) ((wr.alloc (.cells (rc false 0 ((i:Int)+1) n nv0) 80)).alloc (.cells #[.int .i64 2,.int .i64 ((i:Int)+1),.slice none 0 0] 29)):=(Below.refl _ _).alloc (Nat.le_refl _) _
   have e1:(wr.alloc (.cells (rc false 0 ((i:Int)+1) n nv0) 80)).heap.size=rb+1:=by simp[hrb]
   refine(⟨(X.out.below h1).below h2,?_,?_⟩:RX w p _ A u7 R rb (rb+1) _ _ _)
   ·rw[h2.block rb (by omega),<-hrb];exact heap_alloc_newB wr _
   ·rw[<-e1];exact heap_alloc_newB _ _
  have hu7:u7.ownBlock≠some rb:=fun e=>by have:=(X.out.O.lt rb e).2;omega
  have hwb:w.heap.size<=rb:=by rw[<-hrb];exact X.out.bel.size
  have hlc4:w4.cell? ⟨g,i,none⟩=some (.string (stB l)):=by
   rw[X4.out.S.L.cellAt i (by omega)]
   unfold lnC
   rw[List.getElem?_map,HLA.out]
   rfl
  have HU7:Hid (u7.ownBlock≠some rb):=hu7
  have hprb:p≠rb:=by omega
  have hgrb:g≠rb:=by omega
  have hw4':(wr.alloc (.cells #[.bool false,.int .i64 0,.int .i64 ((i:Int)+1),.int .i64 n,.int .i64 0,.int .i64 0,.int .i64 0,.int .i64 0,.int .i64 0,.int .i64 0] 80)).alloc (.cells #[.int .i64 2,.int .i64 ((i:Int)+1),.slice none 0 0] 29)=w4:=hw4
  rw[hw4',hrb]
  clear hw4 hw4' hrb hlc hpz hu7 hgz
  have hpz:p<w4.heap.size:=X4.out.S.pz
  have hrz:rb<w4.heap.size:=(Array.getElem?_eq_some_iff.1 X4.out.W).1
  have f0:=hp_cell X4.out.W 0
  have f1:=hp_cell X4.out.W 1
  have ff:=hp_free X4.out.W
  simp only[rc,List.getElem?_toArray,List.getElem?_cons_zero,List.getElem?_cons_succ]at f0 f1
  go_wp2_with fail
  refine(mark_any (stB l) d w4 hlz HD.out).mono ?_
  rintro e w5⟨hm,hw5⟩
  rw[stB_list]at hm
  rw[hw5]
  clear hw5
  obtain⟨lb,num,he,hlbl⟩:∃(lb:Bool)(num:Int),e=.returned (.tuple #[.bool lb,.int .i64 num])/\((lb=true/\∃x,fit (ptL d 64) l nv0=some x/\num=x.imm)∨(lb=false/\fit (ptL d 64) l nv0=none)):=by
   rcases hf:fit (ptL d 64) l nv0 with _|x
   ·rw[hf]at hm
    obtain⟨k,hk⟩:=hm
    exact⟨false,k,hk,.inr ⟨rfl,rfl⟩⟩
   ·rw[hf]at hm
    exact⟨true,x.imm,hm,.inl ⟨rfl,x,rfl,rfl⟩⟩
  subst he
  have HLB:Hid ((lb=true/\∃x,fit (ptL d 64) l nv0=some x/\num=x.imm)∨(lb=false/\fit (ptL d 64) l nv0=none)):=hlbl
  clear hm hlbl
  go_upto_region 12 with fail
  obtain⟨w6,hw6,X6⟩:∃v,(w4.setCell ⟨rb,0,none⟩ (.bool lb)).setCell ⟨rb,1,none⟩ (.int .i64 num)=v/\Hid (RX w p (.slice (some ⟨g,0,none⟩) A.length lcap) A u7 R rb (rb+1) (rc lb num ((i:Int)+1) n nv0) ((i:Int)+1) v):=by
   refine⟨_,rfl,?_⟩
   have hg':(Value.slice (some ⟨g,0,none⟩) A.length lcap).ownBlock≠some rb:=by simp[Value.ownBlock];exact hgrb
   refine(⟨(X4.out.S.other hwb hprb hg' HU7.out).other hwb hprb hg' HU7.out,?_,?_⟩:RX w p _ A u7 R rb (rb+1) _ _ _)
   ·have:=hp_set (hp_set X4.out.W 0 (.bool lb)) 1 (.int .i64 num)
    exact this
   ·exact hp_other (hp_other X4.out.D (by omega) _ _) (by omega) _ _
  rw[hw6]
  clear hw6 X4 f0 f1 ff hlc4 hpz hrz
  have hlc6:w6.cell? ⟨g,i,none⟩=some (.string (stB l)):=by
   rw[X6.out.S.L.cellAt i (by omega)]
   unfold lnC
   rw[List.getElem?_map,HLA.out]
   rfl
  have hpz:p<w6.heap.size:=X6.out.S.pz
  have p0:=hp_cell X6.out.S.P 0
  have p1:=hp_cell X6.out.S.P 1
  have p2:=hp_cell X6.out.S.P 2
  have pf:=hp_free X6.out.S.P
  have d0:=hp_cell X6.out.D 0
  have d1:=hp_cell X6.out.D 1
  have d2:=hp_cell X6.out.D 2
  have f0:=hp_cell X6.out.W 0
  have f1:=hp_cell X6.out.W 1
  have f2:=hp_cell X6.out.W 2
  simp only[rc,List.getElem?_toArray,List.getElem?_cons_zero,List.getElem?_cons_succ]at p0 p1 p2 d0 d1 d2 f0 f1 f2
  have hwp:w.heap.size<=p:=Nat.le_of_eq HP.out
  have BF:Hid (∀v0 v1 v2,Below w.heap.size w (((w6.setCell ⟨p,0,none⟩ v0).setCell ⟨p,1,none⟩ v1).setCell ⟨p,2,none⟩ v2)):=fun v0 v1 v2=>((X6.out.S.bel.setCell hwp _).setCell hwp _).setCell hwp _
  obtain⟨lt,hltv⟩:∃b,decide (wh=false/\i=Ls.length)=b:=⟨_,rfl⟩
  have HLT:Hid (decide (wh=false/\i=Ls.length)=lt):=hltv
  clear hltv
  go_cut [69](fun b wx=>wx=w6/\b=.bool lt)
  case first=>
   cases wh with
   |true=>
    have e:Hid (false=lt):=(by rw[<-HLT.out];simp:false=lt)
    go_wp2_with fail
    go_meet
    exact⟨rfl,congrArg Value.bool e.out⟩
   |false=>
    have e1:((i:Int)==(A.length:Int)-1)=lt:=by
     rw[<-HLT.out]
     have:=HAL.out
     simp only[Bool.false_eq_true,if_false]at this
     by_cases h:i=Ls.length
     ·simp[h];omega
     ·simp[h];omega
    go_wp2_with fail
    go_meet
    exact⟨rfl,rfl⟩
  case rest=>
  obtain⟨hw,rfl⟩:=hcut
  rw[hw]
  clear hw
  cases lt with
  |true=>
   have h1:wh=false/\i=Ls.length:=by simpa using HLT.out
   have HR:Hid (rdA d t=(2,(i:Int)+1,[])):=(by
    have h2:=HRD.out
    rw[h1.1,h1.2,List.drop_length]at h2
    have h3:rdT d t []=(2,R.map Prod.fst):=h2
    refine(rdA_err ht hin (by rw[h3];simp)).trans ?_
    rw[h3]
    simp[HRI.out]:rdA d t=(2,(i:Int)+1,[]))
   clear h1
   go_wp2_with fail
   exact bodyPost_ret (v:=.agg #[.int .i64 2,.int .i64 ((i:Int)+1),.slice none 0 0]) (by simp[results,Tryd.results15,go_sem, *]) rfl ⟨rd_bad HR.out,BF.out _ _ _⟩
  |false=>
   have hil:i<Ls.length:=by
    have h1:¬(wh=false/\i=Ls.length):=by simpa using HLT.out
    have h2:=HAL.out
    cases wh with
    |true=>simp at h2;omega
    |false=>simp at h1;omega
   have hdr:Ls.drop i=l::Ls.drop (i+1):=by
    have h3:=HLA.out
    rw[<-HAA.out,List.getElem?_append_left hil,List.getElem?_eq_getElem hil]at h3
    rw[List.drop_eq_getElem_cons hil,Option.some.inj h3]
   have HRL:Hid (rdT d t []=rdLs d (l::Ls.drop (i+1)) (!wh) (R.map Prod.fst)):=(by rw[<-hdr];exact HRD.out:rdT d t []=rdLs d (l::Ls.drop (i+1)) (!wh) (R.map Prod.fst))
   clear hdr
   clear p0 p1 p2 pf d0 d1 d2 f0 f1 f2 BF
   have f0:=hp_cell X6.out.W 0
   simp only[rc,List.getElem?_toArray,List.getElem?_cons_zero]at f0
   go_upto_if 72 with fail
   go_cut [8,12,13,14,15,16](fun nv _ _ _ _ _ wx=>PR w p (.slice (some ⟨g,0,none⟩) A.length lcap) A u7 R rb ((i:Int)+1) d l num n nv wx)
   case first=>
    rcases HLB.out with⟨hlb,x,hfx,hnx⟩|⟨hlb,hfn⟩
    ·subst hlb
     have HRX:Hid (rdLine d l=some (true,x)):=(by unfold rdLine;rw[hfx]:rdLine d l=some (true,x))
     have HNX:Hid (num=x.imm):=hnx
     have f1:=hp_cell X6.out.W 1
     simp only[rc,List.getElem?_toArray,List.getElem?_cons_zero,List.getElem?_cons_succ]at f1
     clear hfx hnx
     go_wp2_with fail
     refine(find_row R num w6 (by have:=HRI.out;omega) X6.out.S.B X6.out.S.O).mono ?_
     rintro e w7⟨hf,hb7⟩
     have X7:Hid (RX w p (.slice (some ⟨g,0,none⟩) A.length lcap) A u7 R rb (rb+1) (rc true num ((i:Int)+1) n nv0) ((i:Int)+1) w7):=X6.out.below hb7
     clear hb7 f0 f1
     rcases hlo:labOf (R.map Prod.fst) num with _|a
     ·rw[hlo]at hf
      have hf':e=.returned (.tuple #[.bool false,.int .i64 0]):=hf
      subst hf'
      have HLO:Hid (labOf (R.map Prod.fst) num=none):=hlo
      clear hf hlo
      go_wp2_with fail
      go_meet
      refine⟨(true,x),HRX.out,?_,fun _=>⟨HNX.out,by rw[<-HNX.out];exact HLO.out⟩,X7.out⟩
      rw[cnt_snoc,HN.out]
      rfl
     ·rw[hlo]at hf
      have hf':e=.returned (.tuple #[.bool true,.int .i64 (a:Int)]):=hf
      subst hf'
      have HR:Hid (rdA d t=(3,(i:Int)+1,[])):=(by
       have h3:rdT d t []=(3,R.map Prod.fst):=(by
        rw[HRL.out]
        unfold rdLs
        rw[HRX.out]
        simp only
        rw[if_pos (by rw[<-HNX.out,hlo];rfl)]
        :rdT d t []=(3,R.map Prod.fst))
       rw[rdA_lines ht hin h3 (by decide)]
       simp[HRI.out]:rdA d t=(3,(i:Int)+1,[]))
      clear hf hlo
      have hpz':p<w7.heap.size:=X7.out.S.pz
      have p0:=hp_cell X7.out.S.P 0
      have p1:=hp_cell X7.out.S.P 1
      have p2:=hp_cell X7.out.S.P 2
      have pf:=hp_free X7.out.S.P
      have d0:=hp_cell X7.out.D 0
      have d1:=hp_cell X7.out.D 1
      have d2:=hp_cell X7.out.D 2
      have f2:=hp_cell X7.out.W 2
      simp only[rc,List.getElem?_toArray,List.getElem?_cons_zero,List.getElem?_cons_succ]at p0 p1 p2 d0 d1 d2 f2
      have BF:Hid (∀v0 v1 v2,Below w.heap.size w (((w7.setCell ⟨p,0,none⟩ v0).setCell ⟨p,1,none⟩ v1).setCell ⟨p,2,none⟩ v2)):=fun v0 v1 v2=>((X7.out.S.bel.setCell hwp _).setCell hwp _).setCell hwp _
      go_wp2_with fail
      try simp only[Exit.inBlock,Exit.then]
      exact bodyPost_ret (v:=.agg #[.int .i64 3,.int .i64 ((i:Int)+1),.slice none 0 0]) (by simp[results,Tryd.results15,go_sem, *]) rfl ⟨rd_bad HR.out,BF.out _ _ _⟩
    ·subst hlb
     have HFN:Hid (fit (ptL d 64) l nv0=none):=hfn
     clear hfn
     go_wp2_with fail
     refine(ins_any (stB l) d w6 hlz HD.out).mono ?_
     rintro e w7⟨hir,hb7⟩
     rw[stB_list]at hir
     have X7:Hid (RX w p (.slice (some ⟨g,0,none⟩) A.length lcap) A u7 R rb (rb+1) (rc false num ((i:Int)+1) n nv0) ((i:Int)+1) w7):=X6.out.below hb7
     obtain⟨ok,x,he,hox⟩:∃(ok:Bool)(x:NV),e=.returned (.tuple #[.bool ok,.agg (nvA x)])/\((ok=true/\insL d l=some x)∨(ok=false/\x=nv0/\insL d l=none)):=by
      rcases hi':insL d l with _|x
      ·rw[hi']at hir
       exact⟨false,nv0,hir,.inr ⟨rfl,rfl,rfl⟩⟩
      ·rw[hi']at hir
       exact⟨true,x,hir,.inl ⟨rfl,rfl⟩⟩
     subst he
     have HOX:Hid ((ok=true/\insL d l=some x)∨(ok=false/\x=nv0/\insL d l=none)):=hox
     clear hir hox hb7 f0
     unfold nvA
     go_upto_region 20 with fail
     obtain⟨xb,hxb⟩:∃q,w7.heap.size=q:=⟨_,rfl⟩
     obtain⟨w8,hw8,X8,hx8,ht8⟩:∃v,(w7.alloc (.cells #[.int .i64 x.op,.int .i64 x.d,.int .i64 x.a,.int .i64 x.b,.int .i64 x.imm,.int .i64 x.h] 56)).alloc (.cells #[.int .i64 x.op,.int .i64 x.d,.int .i64 x.a,.int .i64 x.b,.int .i64 x.imm,.int .i64 x.h] 56)=v/\Hid (RX w p (.slice (some ⟨g,0,none⟩) A.length lcap) A u7 R rb (rb+1) (rc false num ((i:Int)+1) n nv0) ((i:Int)+1) v)/\v.heap[xb]?=some (.cells #[.int .i64 x.op,.int .i64 x.d,.int .i64 x.a,.int .i64 x.b,.int .i64 x.imm,.int .i64 x.h] 56)/\v.heap[xb+1]?=some (.cells #[.int .i64 x.op,.int .i64 x.d,.int .i64 x.a,.int .i64 x.b,.int .i64 x.imm,.int .i64 x.h] 56):=by
      have h1:Below w7.heap.size w7 (w7.alloc (.cells #[.int .i64 x.op,.int .i64 x.d,.int .i64 x.a,.int .i64 x.b,.int .i64 x.imm,.int .i64 x.h] 56)):=(Below.refl _ _).alloc (Nat.le_refl _) _
      have h2:Below (w7.alloc (.cells #[.int .i64 x.op,.int .i64 x.d,.int .i64 x.a,.int .i64 x.b,.int .i64 x.imm,.int .i64 x.h] 56)).heap.size (w7.alloc (.cells #[.int .i64 x.op,.int .i64 x.d,.int .i64 x.a,.int .i64 x.b,.int .i64 x.imm,.int .i64 x.h] 56)) ((w7.alloc (.cells #[.int .i64 x.op,.int .i64 x.d,.int .i64 x.a,.int .i64 x.b,.int .i64 x.imm,.int .i64 x.h] 56)).alloc (.cells #[.int .i64 x.op,.int .i64 x.d,.int .i64 x.a,.int .i64 x.b,.int .i64 x.imm,.int .i64 x.h] 56)):=(Below.refl _ _).alloc (Nat.le_refl _) _
      have e1:(w7.alloc (.cells #[.int .i64 x.op,.int .i64 x.d,.int .i64 x.a,.int .i64 x.b,.int .i64 x.imm,.int .i64 x.h] 56)).heap.size=xb+1:=by simp[hxb]
      refine⟨_,rfl,(X7.out.below h1).below h2,?_,?_⟩
      ·rw[h2.block xb (by omega),<-hxb];exact heap_alloc_newB w7 _
      ·rw[<-e1];exact heap_alloc_newB _ _
     have htb:p≠xb+1/\rb≠xb+1/\rb+1≠xb+1/\g≠xb+1/\w.heap.size<=xb+1/\(∀q,u7.ownBlock=some q->q≠xb+1):=by
      have h1:=X7.out.S.pz
      have h2:=(Array.getElem?_eq_some_iff.1 X7.out.W).1
      have h3:=(Array.getElem?_eq_some_iff.1 X7.out.D).1
      have h4:=(X7.out.S.L.lt g rfl).2
      have h5:=X7.out.S.bel.size
      refine⟨by omega,by omega,by omega,by omega,by omega,fun q hq=>?_⟩
      have:=(X7.out.S.O.lt q hq).2
      omega
     have HTB:Hid (p≠xb+1/\rb≠xb+1/\rb+1≠xb+1/\g≠xb+1/\w.heap.size<=xb+1/\(∀q,u7.ownBlock=some q->q≠xb+1)):=htb
     rw[hw8,hxb]
     have HX8:Hid (w8.heap[xb]?=some (.cells #[.int .i64 x.op,.int .i64 x.d,.int .i64 x.a,.int .i64 x.b,.int .i64 x.imm,.int .i64 x.h] 56)):=hx8
     have HT8:Hid (w8.heap[xb+1]?=some (.cells #[.int .i64 x.op,.int .i64 x.d,.int .i64 x.a,.int .i64 x.b,.int .i64 x.imm,.int .i64 x.h] 56)):=ht8
     have hxz:xb+1<w8.heap.size:=(Array.getElem?_eq_some_iff.1 ht8).1
     clear hw8 hxb X7 htb hx8 ht8
     have x0:=hp_cell HX8.out 0
     have t0:=hp_cell HT8.out 0
     have t1:=hp_cell HT8.out 1
     have t2:=hp_cell HT8.out 2
     have t3:=hp_cell HT8.out 3
     have t4:=hp_cell HT8.out 4
     have t5:=hp_cell HT8.out 5
     have tf:=hp_free HT8.out
     simp only[List.getElem?_toArray,List.getElem?_cons_zero,List.getElem?_cons_succ]at x0 t0 t1 t2 t3 t4 t5
     rcases HOX.out with⟨hok,hil'⟩|⟨hok,hx0,hil'⟩
     rotate_left
     ·subst hok
      subst hx0
      have HR:Hid (rdA d t=(2,(i:Int)+1,[])):=(by
       have h3:rdT d t []=(2,R.map Prod.fst):=(by
        rw[HRL.out]
        unfold rdLs
        have:rdLine d l=none:=by unfold rdLine;rw[HFN.out,hil']
        rw[this]
        :rdT d t []=(2,R.map Prod.fst))
       rw[rdA_lines ht hin h3 (by decide)]
       simp[HRI.out]:rdA d t=(2,(i:Int)+1,[]))
      clear hil' t0 t1 t2 t3 t4 t5 tf
      have hpz':p<w8.heap.size:=X8.out.S.pz
      have p0:=hp_cell X8.out.S.P 0
      have p1:=hp_cell X8.out.S.P 1
      have p2:=hp_cell X8.out.S.P 2
      have pf:=hp_free X8.out.S.P
      have d0:=hp_cell X8.out.D 0
      have d1:=hp_cell X8.out.D 1
      have d2:=hp_cell X8.out.D 2
      simp only[List.getElem?_toArray,List.getElem?_cons_zero,List.getElem?_cons_succ]at p0 p1 p2 d0 d1 d2
      have BF:Hid (∀v0 v1 v2,Below w.heap.size w (((w8.setCell ⟨p,0,none⟩ v0).setCell ⟨p,1,none⟩ v1).setCell ⟨p,2,none⟩ v2)):=fun v0 v1 v2=>((X8.out.S.bel.setCell hwp _).setCell hwp _).setCell hwp _
      go_upto_region 22 with(first|(go_at_call 36;refine(jump_any _ _).mono ?_;rintro e w9⟨rfl,hw9⟩;rw[hw9,jump0];clear hw9))
      go_wp2_with fail
      try simp only[Exit.inBlock,Exit.then]
      exact bodyPost_ret (v:=.agg #[.int .i64 2,.int .i64 ((i:Int)+1),.slice none 0 0]) (by simp[results,Tryd.results15,go_sem, *]) rfl ⟨rd_bad HR.out,BF.out _ _ _⟩
     subst hok
     have HIL:Hid (insL d l=some x):=hil'
     clear hil'
     obtain⟨cs,hcs⟩:∃b,canS x=b:=⟨_,rfl⟩
     have HCS:Hid (canS x=cs):=hcs
     clear hcs
     cases hj:jumpB x.op with
     |true=>
      have HCI:Hid (implIns x.op x.d x.a x.b 0 x.h=cs):=(by rw[<-HCS.out];unfold canS;rw[hj];rfl:implIns x.op x.d x.a x.b 0 x.h=cs)
      go_upto_region 22 with(first|(go_at_call 36;refine(jump_any _ _).mono ?_;rintro e w9⟨rfl,hw9⟩;rw[hw9,hj];clear hw9))
      obtain⟨w9,hw9,X9,hx9,ht9⟩:∃v,w8.setCell ⟨xb+1,4,none⟩ (.int .i64 0)=v/\Hid (RX w p (.slice (some ⟨g,0,none⟩) A.length lcap) A u7 R rb (rb+1) (rc false num ((i:Int)+1) n nv0) ((i:Int)+1) v)/\v.heap[xb]?=some (.cells #[.int .i64 x.op,.int .i64 x.d,.int .i64 x.a,.int .i64 x.b,.int .i64 x.imm,.int .i64 x.h] 56)/\v.heap[xb+1]?=some (.cells #[.int .i64 x.op,.int .i64 x.d,.int .i64 x.a,.int .i64 x.b,.int .i64 0,.int .i64 x.h] 56):=by
       obtain⟨h1,h2,h3,h4,h5,h6⟩:=HTB.out
       refine⟨_,rfl,⟨X8.out.S.other h5 h1 (by simp[Value.ownBlock];exact h4) (fun e=>h6 _ e rfl),hp_other X8.out.W h2 _ _,hp_other X8.out.D h3 _ _⟩,hp_other HX8.out (by omega) _ _,?_⟩
       have:=hp_set HT8.out 4 (.int .i64 0)
       exact this
      rw[hw9]
      clear hw9 t0 t1 t2 t3 t4 t5 tf x0
      have t0:=hp_cell ht9 0
      have t1:=hp_cell ht9 1
      have t2:=hp_cell ht9 2
      have t3:=hp_cell ht9 3
      have t4:=hp_cell ht9 4
      have t5:=hp_cell ht9 5
      simp only[List.getElem?_toArray,List.getElem?_cons_zero,List.getElem?_cons_succ]at t0 t1 t2 t3 t4 t5
      have HX9:Hid (w9.heap[xb]?=some (.cells #[.int .i64 x.op,.int .i64 x.d,.int .i64 x.a,.int .i64 x.b,.int .i64 x.imm,.int .i64 x.h] 56)):=hx9
      clear hx9 ht9
      go_wp2_with fail
      refine(specIns_any x.op x.d x.a x.b 0 x.h w9).mono ?_
      rintro e w10⟨rfl,hb10⟩
      rw[HCI.out]
      have X10:Hid (RX w p (.slice (some ⟨g,0,none⟩) A.length lcap) A u7 R rb (rb+1) (rc false num ((i:Int)+1) n nv0) ((i:Int)+1) w10):=X9.out.below hb10
      have hx10:w10.heap[xb]?=some (.cells #[.int .i64 x.op,.int .i64 x.d,.int .i64 x.a,.int .i64 x.b,.int .i64 x.imm,.int .i64 x.h] 56):=(hb10.block xb (Array.getElem?_eq_some_iff.1 HX9.out).1).trans HX9.out
      clear hb10 t0 t1 t2 t3 t4 t5 X9 HX9
      cases cs with
      |false=>
       have HR:Hid (rdA d t=(2,(i:Int)+1,[])):=(by
        have h3:rdT d t []=(2,R.map Prod.fst):=(by
         rw[HRL.out]
         unfold rdLs
         have:rdLine d l=none:=by unfold rdLine;rw[HFN.out,HIL.out];simp only;rw[if_neg (by simp[HCS.out])]
         rw[this]
         :rdT d t []=(2,R.map Prod.fst))
        rw[rdA_lines ht hin h3 (by decide)]
        simp[HRI.out]:rdA d t=(2,(i:Int)+1,[]))
       clear hx10
       have hpz':p<w10.heap.size:=X10.out.S.pz
       have p0:=hp_cell X10.out.S.P 0
       have p1:=hp_cell X10.out.S.P 1
       have p2:=hp_cell X10.out.S.P 2
       have pf:=hp_free X10.out.S.P
       have d0:=hp_cell X10.out.D 0
       have d1:=hp_cell X10.out.D 1
       have d2:=hp_cell X10.out.D 2
       simp only[List.getElem?_toArray,List.getElem?_cons_zero,List.getElem?_cons_succ]at p0 p1 p2 d0 d1 d2
       have BF:Hid (∀v0 v1 v2,Below w.heap.size w (((w10.setCell ⟨p,0,none⟩ v0).setCell ⟨p,1,none⟩ v1).setCell ⟨p,2,none⟩ v2)):=fun v0 v1 v2=>((X10.out.S.bel.setCell hwp _).setCell hwp _).setCell hwp _
       go_wp2_with fail
       try simp only[Exit.inBlock,Exit.then]
       exact bodyPost_ret (v:=.agg #[.int .i64 2,.int .i64 ((i:Int)+1),.slice none 0 0]) (by simp[results,Tryd.results15,go_sem, *]) rfl ⟨rd_bad HR.out,BF.out _ _ _⟩
      |true=>
       have HRX:Hid (rdLine d l=some (false,x)):=(by unfold rdLine;rw[HFN.out,HIL.out];simp only;rw[if_pos HCS.out]:rdLine d l=some (false,x))
       have x0:=hp_cell hx10 0
       have x1:=hp_cell hx10 1
       have x2:=hp_cell hx10 2
       have x3:=hp_cell hx10 3
       have x4:=hp_cell hx10 4
       have x5:=hp_cell hx10 5
       have r4:=hp_cell X10.out.W 4
       have r5:=hp_cell X10.out.W 5
       have r6:=hp_cell X10.out.W 6
       have r7:=hp_cell X10.out.W 7
       have r8:=hp_cell X10.out.W 8
       have r9:=hp_cell X10.out.W 9
       have rf:=hp_free X10.out.W
       simp only[rc,nv0,List.getElem?_toArray,List.getElem?_cons_zero,List.getElem?_cons_succ]at x0 x1 x2 x3 x4 x5 r4 r5 r6 r7 r8 r9
       have hrz:rb<w10.heap.size:=(Array.getElem?_eq_some_iff.1 X10.out.W).1
       have hn1:IntKind.i64.wrap ((n:Int)+1)=(n:Int)+1:=i64_idR (by omega) (by omega)
       clear hx10
       go_wp2_with fail
       go_meet
       refine⟨(false,x),HRX.out,?_,fun h=>(by cases h),?_⟩
       ·rw[cnt_snoc,HN.out];simp
       ·have hg':(Value.slice (some ⟨g,0,none⟩) A.length lcap).ownBlock≠some rb:=by simp[Value.ownBlock];exact hgrb
        refine(⟨(((((X10.out.S.other hwb hprb hg' HU7.out).other hwb hprb hg' HU7.out).other hwb hprb hg' HU7.out).other hwb hprb hg' HU7.out).other hwb hprb hg' HU7.out).other hwb hprb hg' HU7.out,?_,?_⟩:RX w p _ A u7 R rb (rb+1) _ _ _)
        ·exact hp_set (hp_set (hp_set (hp_set (hp_set (hp_set X10.out.W 4 _) 5 _) 6 _) 7 _) 8 _) 9 _
        ·exact hp_other (hp_other (hp_other (hp_other (hp_other (hp_other X10.out.D (by omega) _ _) (by omega) _ _) (by omega) _ _) (by omega) _ _) (by omega) _ _) (by omega) _ _
     |false=>
      have HCI:Hid (implIns x.op x.d x.a x.b x.imm x.h=cs):=(by rw[<-HCS.out];unfold canS;rw[hj];rfl:implIns x.op x.d x.a x.b x.imm x.h=cs)
      go_upto_region 22 with(first|(go_at_call 36;refine(jump_any _ _).mono ?_;rintro e w9⟨rfl,hw9⟩;rw[hw9,hj];clear hw9))
      obtain⟨w9,hw9,X9,hx9,ht9⟩:∃v,w8=v/\Hid (RX w p (.slice (some ⟨g,0,none⟩) A.length lcap) A u7 R rb (rb+1) (rc false num ((i:Int)+1) n nv0) ((i:Int)+1) v)/\v.heap[xb]?=some (.cells #[.int .i64 x.op,.int .i64 x.d,.int .i64 x.a,.int .i64 x.b,.int .i64 x.imm,.int .i64 x.h] 56)/\v.heap[xb+1]?=some (.cells #[.int .i64 x.op,.int .i64 x.d,.int .i64 x.a,.int .i64 x.b,.int .i64 x.imm,.int .i64 x.h] 56):=⟨_,rfl,X8.out,HX8.out,HT8.out⟩
      rw[hw9]
      clear hw9 t0 t1 t2 t3 t4 t5 tf x0
      have t0:=hp_cell ht9 0
      have t1:=hp_cell ht9 1
      have t2:=hp_cell ht9 2
      have t3:=hp_cell ht9 3
      have t4:=hp_cell ht9 4
      have t5:=hp_cell ht9 5
      simp only[List.getElem?_toArray,List.getElem?_cons_zero,List.getElem?_cons_succ]at t0 t1 t2 t3 t4 t5
      have HX9:Hid (w9.heap[xb]?=some (.cells #[.int .i64 x.op,.int .i64 x.d,.int .i64 x.a,.int .i64 x.b,.int .i64 x.imm,.int .i64 x.h] 56)):=hx9
      clear hx9 ht9
      go_wp2_with fail
      refine(specIns_any x.op x.d x.a x.b x.imm x.h w9).mono ?_
      rintro e w10⟨rfl,hb10⟩
      rw[HCI.out]
      have X10:Hid (RX w p (.slice (some ⟨g,0,none⟩) A.length lcap) A u7 R rb (rb+1) (rc false num ((i:Int)+1) n nv0) ((i:Int)+1) w10):=X9.out.below hb10
      have hx10:w10.heap[xb]?=some (.cells #[.int .i64 x.op,.int .i64 x.d,.int .i64 x.a,.int .i64 x.b,.int .i64 x.imm,.int .i64 x.h] 56):=(hb10.block xb (Array.getElem?_eq_some_iff.1 HX9.out).1).trans HX9.out
      clear hb10 t0 t1 t2 t3 t4 t5 X9 HX9
      cases cs with
      |false=>
       have HR:Hid (rdA d t=(2,(i:Int)+1,[])):=(by
        have h3:rdT d t []=(2,R.map Prod.fst):=(by
         rw[HRL.out]
         unfold rdLs
         have:rdLine d l=none:=by unfold rdLine;rw[HFN.out,HIL.out];simp only;rw[if_neg (by simp[HCS.out])]
         rw[this]
         :rdT d t []=(2,R.map Prod.fst))
        rw[rdA_lines ht hin h3 (by decide)]
        simp[HRI.out]:rdA d t=(2,(i:Int)+1,[]))
       clear hx10
       have hpz':p<w10.heap.size:=X10.out.S.pz
       have p0:=hp_cell X10.out.S.P 0
       have p1:=hp_cell X10.out.S.P 1
       have p2:=hp_cell X10.out.S.P 2
       have pf:=hp_free X10.out.S.P
       have d0:=hp_cell X10.out.D 0
       have d1:=hp_cell X10.out.D 1
       have d2:=hp_cell X10.out.D 2
       simp only[List.getElem?_toArray,List.getElem?_cons_zero,List.getElem?_cons_succ]at p0 p1 p2 d0 d1 d2
       have BF:Hid (∀v0 v1 v2,Below w.heap.size w (((w10.setCell ⟨p,0,none⟩ v0).setCell ⟨p,1,none⟩ v1).setCell ⟨p,2,none⟩ v2)):=fun v0 v1 v2=>((X10.out.S.bel.setCell hwp _).setCell hwp _).setCell hwp _
       go_wp2_with fail
       try simp only[Exit.inBlock,Exit.then]
       exact bodyPost_ret (v:=.agg #[.int .i64 2,.int .i64 ((i:Int)+1),.slice none 0 0]) (by simp[results,Tryd.results15,go_sem, *]) rfl ⟨rd_bad HR.out,BF.out _ _ _⟩
      |true=>
       have HRX:Hid (rdLine d l=some (false,x)):=(by unfold rdLine;rw[HFN.out,HIL.out];simp only;rw[if_pos HCS.out]:rdLine d l=some (false,x))
       have x0:=hp_cell hx10 0
       have x1:=hp_cell hx10 1
       have x2:=hp_cell hx10 2
       have x3:=hp_cell hx10 3
       have x4:=hp_cell hx10 4
       have x5:=hp_cell hx10 5
       have r4:=hp_cell X10.out.W 4
       have r5:=hp_cell X10.out.W 5
       have r6:=hp_cell X10.out.W 6
       have r7:=hp_cell X10.out.W 7
       have r8:=hp_cell X10.out.W 8
       have r9:=hp_cell X10.out.W 9
       have rf:=hp_free X10.out.W
       simp only[rc,nv0,List.getElem?_toArray,List.getElem?_cons_zero,List.getElem?_cons_succ]at x0 x1 x2 x3 x4 x5 r4 r5 r6 r7 r8 r9
       have hrz:rb<w10.heap.size:=(Array.getElem?_eq_some_iff.1 X10.out.W).1
       have hn1:IntKind.i64.wrap ((n:Int)+1)=(n:Int)+1:=i64_idR (by omega) (by omega)
       clear hx10
       go_wp2_with fail
       go_meet
       refine⟨(false,x),HRX.out,?_,fun h=>(by cases h),?_⟩
       ·rw[cnt_snoc,HN.out];simp
       ·have hg':(Value.slice (some ⟨g,0,none⟩) A.length lcap).ownBlock≠some rb:=by simp[Value.ownBlock];exact hgrb
        refine(⟨(((((X10.out.S.other hwb hprb hg' HU7.out).other hwb hprb hg' HU7.out).other hwb hprb hg' HU7.out).other hwb hprb hg' HU7.out).other hwb hprb hg' HU7.out).other hwb hprb hg' HU7.out,?_,?_⟩:RX w p _ A u7 R rb (rb+1) _ _ _)
        ·exact hp_set (hp_set (hp_set (hp_set (hp_set (hp_set X10.out.W 4 _) 5 _) 6 _) 7 _) 8 _) 9 _
        ·exact hp_other (hp_other (hp_other (hp_other (hp_other (hp_other X10.out.D (by omega) _ _) (by omega) _ _) (by omega) _ _) (by omega) _ _) (by omega) _ _) (by omega) _ _
   case rest=>
    obtain⟨r,hrl,hnv,hrb',hrx⟩:=hcut
    subst hnv
    have HRLN:Hid (rdLine d l=some r):=hrl
    have HRB':Hid (r.1=true->num=r.2.imm/\labOf (R.map Prod.fst) r.2.imm=none):=hrb'
    have XC:Hid (RX w p (.slice (some ⟨g,0,none⟩) A.length lcap) A u7 R rb (rb+1) (rc r.1 num ((i:Int)+1) n (if r.1=true then nv0 else r.2)) ((i:Int)+1) wc):=hrx
    obtain⟨y,hy⟩:∃y,(if r.1=true then nv0 else r.2)=y:=⟨_,rfl⟩
    obtain⟨lb',hlb'⟩:∃b,r.1=b:=⟨_,rfl⟩
    have HY:Hid ((if r.1=true then nv0 else r.2)=y):=hy
    have HLB':Hid (r.1=lb'):=hlb'
    obtain⟨n',hn'⟩:∃m,cntI (R.map Prod.fst++[r])=m:=⟨_,rfl⟩
    have HN':Hid (cntI (R.map Prod.fst++[r])=n'):=hn'
    rw[hn']
    clear hrl hrb' hn'
    rw[hy,hlb']at hrx
    have q0:=hp_cell hrx.W 0
    have q1:=hp_cell hrx.W 1
    have q2:=hp_cell hrx.W 2
    have q3:=hp_cell hrx.W 3
    have q4:=hp_cell hrx.W 4
    have q5:=hp_cell hrx.W 5
    have q6:=hp_cell hrx.W 6
    have q7:=hp_cell hrx.W 7
    have q8:=hp_cell hrx.W 8
    have q9:=hp_cell hrx.W 9
    simp only[rc,List.getElem?_toArray,List.getElem?_cons_zero,List.getElem?_cons_succ]at q0 q1 q2 q3 q4 q5 q6 q7 q8 q9
    have OA:Hid (∀o,(wc.alloc o).ownsRow w.heap.size 80 10 u7 i (rwL R)):=fun o=>by
     have:=row_belowB hrx.S.O ((Below.refl _ _).alloc (Nat.le_refl _) o)
     rw[HRI.out]at this
     exact this
    have XA:Hid (∀o,SX w p (.slice (some ⟨g,0,none⟩) A.length lcap) A u7 R (wc.alloc o)):=fun o=>hrx.S.below ((Below.refl _ _).alloc (Nat.le_refl _) _)
    have hBa:∀o,w.heap.size<=(wc.alloc o).heap.size:=fun o=>((XA.out o).bel).size
    have HCN:Hid (∀j u,[Value.bool lb',.int .i64 num,.int .i64 ((i:Int)+1),.int .i64 n,.int .i64 y.op,.int .i64 y.d,.int .i64 y.a,.int .i64 y.b,.int .i64 y.imm,.int .i64 y.h][j]?=some u->(wc.alloc (.cells #[.bool lb',.int .i64 num,.int .i64 ((i:Int)+1),.int .i64 n,.int .i64 y.op,.int .i64 y.d,.int .i64 y.a,.int .i64 y.b,.int .i64 y.imm,.int .i64 y.h] 80)).cell? ((⟨wc.heap.size,0,none⟩:Addr).add j)=some u):=cells_newR wc _ _
    clear hrx hy hlb' X6 f0
    go_wp2_with(first|(at_builtin;refine wpList_append_own_at _ rfl _ _ 78 rfl w.heap.size 80 iR _ 10 80 Tryd.underlying78 HIR.out.1 HIR.out.2.1 HIR.out.2.2.1 HIR.out.2.2.2 rfl (by decide) u7 i _ rfl (OA.out _) ⟨wc.heap.size,0,none⟩ 1 1 [Value.bool lb',.int .i64 num,.int .i64 ((i:Int)+1),.int .i64 n,.int .i64 y.op,.int .i64 y.d,.int .i64 y.a,.int .i64 y.b,.int .i64 y.imm,.int .i64 y.h] rfl rfl HCN.out ?c2 ?c3 ?c4 (hBa _) ?_))
    case c2=>simp[Value.oneCell']
    case c3=>unfold maxLen;omega
    case c4=>omega
    intro v' w11 hown11 hgrow _ _
    have N11:Hid (SX w p (.slice (some ⟨g,0,none⟩) A.length lcap) A v' (R++[(r,num)]) w11):=(by
     have hxa:=XA.out (.cells #[.bool lb',.int .i64 num,.int .i64 ((i:Int)+1),.int .i64 n,.int .i64 y.op,.int .i64 y.d,.int .i64 y.a,.int .i64 y.b,.int .i64 y.imm,.int .i64 y.h] 80)
     refine⟨hxa.bel.grown hgrow hxa.bel.size (fun k hk=>(hxa.O.lt k hk).1),obj_two hxa.P hxa.O (by decide) hgrow,row_two hxa.L hxa.O (by decide) hgrow,?_,?_,?_⟩
     ·rw[List.length_append,List.length_cons,List.length_nil,HRI.out]
      have e:=rwL_snoc R (r,num)
      rw[<-e]
      have e0:[rwC (R++[(r,num)]) R.length 0,rwC (R++[(r,num)]) R.length 1,rwC (R++[(r,num)]) R.length 2,rwC (R++[(r,num)]) R.length 3,rwC (R++[(r,num)]) R.length 4,rwC (R++[(r,num)]) R.length 5,rwC (R++[(r,num)]) R.length 6,rwC (R++[(r,num)]) R.length 7,rwC (R++[(r,num)]) R.length 8,rwC (R++[(r,num)]) R.length 9]=[Value.bool lb',.int .i64 num,.int .i64 ((i:Int)+1),.int .i64 n,.int .i64 y.op,.int .i64 y.d,.int .i64 y.a,.int .i64 y.b,.int .i64 y.imm,.int .i64 y.h]:=by
       rw[rwC_new R r num,HY.out,HLB'.out,HN.out,HRI.out]
      rw[e0]
      exact hown11
     ·exact hxa.U.snoc fun h=>(HRB'.out h).2
     ·intro q hq hl
      rcases List.mem_append.1 hq with h|h
      ·exact hxa.B q h hl
      ·have:q=(r,num):=by simpa using h
       subst this
       exact(HRB'.out hl).1:SX w p (.slice (some ⟨g,0,none⟩) A.length lcap) A v' (R++[(r,num)]) w11)
    have HRD2:Hid (rdT d t []=rdLs d (Ls.drop (i+1)) (!wh) ((R++[(r,num)]).map Prod.fst)):=(by
     rw[HRL.out,List.map_append,List.map_cons,List.map_nil]
     show rdLs d (l::Ls.drop (i+1)) (!wh) (R.map Prod.fst)=_
     conv=>lhs;unfold rdLs
     rw[HRLN.out]
     obtain⟨rb1,rx⟩:=r
     cases rb1 with
     |true=>
      simp only
      rw[if_neg]
      rw[(HRB'.out rfl).2]
      simp
     |false=>rfl:rdT d t []=rdLs d (Ls.drop (i+1)) (!wh) ((R++[(r,num)]).map Prod.fst))
    clear hown11 hgrow q0 q1 q2 q3 q4 q5 q6 q7 q8 q9
    go_wp2_with fail
    go_roundw
    case rel=>exact⟨i+1,R++[(r,num)],by omega,by rw[List.length_append,HRI.out];rfl,by rw[List.map_append,List.map_cons,List.map_nil,HN'.out],by go_num,N11.out,HRD2.out⟩
    case measure=>simp[intOf];omega
theorem specRead_any(b off cap:Nat)(t:List UInt8)(d:Int)(w:World)(ht:(t.length:Int)<=1048576)(hat:At w b off t.length (numF .u8 (bF t))):
 Calls Tryd.prog 15 #[.slice (some ⟨b,off,none⟩) t.length cap,.int .i64 d] w fun e w'=>ReadR (rdA d t) w.heap.size e w'/\Below w.heap.size w w':=by
 by_cases h:100000<t.length∨inB d 0 1=false
 ·exact specRead_long b off cap t d w h ht
 ·refine specRead_ok b off cap t d w (by omega) ?_ hat
  have h2:inB d 0 1=true:=by
   cases hi:inB d 0 1 with
   |true=>rfl
   |false=>exact absurd (.inr hi) h
  unfold inB at h2;simp only[Bool.and_eq_true,decide_eq_true_eq]at h2;omega
end Go.Proofs.YtdbhgaegblclaaaDoor
