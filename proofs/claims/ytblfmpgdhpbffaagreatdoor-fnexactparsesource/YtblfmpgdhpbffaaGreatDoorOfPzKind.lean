import Derived.Test.YtblfmpgdhpbffaaGreatDoorOfPsLay
import Derived.Test.YtblfmpgdhpbffaaGreatDoorOfPzCell
import Derived.Deep.DeepCutAuto
import Derived.Test.YtblfmpgdhpbffaaGreatDoorPzBnd
import Derived.Test.YtblfmpgdhpbffaaGreatDoorOfRdRL
import Derived.Lib.SplitLaws
import Derived.Test.YtblfmpgdhpbffaaGreatDoorOfPzNum
set_option maxHeartbeats 3200000
set_option maxRecDepth 20000
namespace Go.Proofs.YtblfmpgdhpbffaaGreatDoor
open Go.RowKit Go.Proofs
def envN:List String:=["strings.asciiSpace","internal/strconv.uint64pow10","strconv.ErrSyntax","strconv.ErrRange","internal/bytealg.MaxLen"]
structure Env(w:World)(B:Nat):Prop where
 sp:Lib.TabIs Tryz.prog w "strings.asciiSpace" .u8 Lib.asciiSpaceTab
 p10:Lib.TabIs Tryz.prog w "internal/strconv.uint64pow10" .u64 Lib.pow10Tab
 es:∃tp p,w.var? Tryz.prog "strconv.ErrSyntax" =some #[.iface tp p]
 er:∃tp p,w.var? Tryz.prog "strconv.ErrRange" =some #[.iface tp p]
 ml:∃m:Int,w.var? Tryz.prog "internal/bytealg.MaxLen" =some #[.int .i64 m]
 g:∀n∈envN,∀g,Tryz.prog.globalNamed n=some g->g<B
theorem var_below{w w':World}{B:Nat}{n:String}(hb:Below B w w')(hg:∀g,Tryz.prog.globalNamed n=some g->g<B):w'.var? Tryz.prog n=w.var? Tryz.prog n:=by
 unfold World.var?;cases h:Tryz.prog.globalNamed n with
 |none=>rfl
 |some g=>simp only[Option.bind_some];rw[hb.block g (hg g h)]
theorem Env.below{w w':World}{B:Nat}(h:Env w B)(hb:Below B w w'):Env w' B:=by
 have k:∀n∈envN,w'.var? Tryz.prog n=w.var? Tryz.prog n:=fun n hn=>var_below hb (h.g n hn)
 refine⟨?_,?_,?_,?_,?_,h.g⟩
 ·unfold Lib.TabIs;rw[k _ (by simp[envN])];exact h.sp
 ·unfold Lib.TabIs;rw[k _ (by simp[envN])];exact h.p10
 ·rw[k _ (by simp[envN])];exact h.es
 ·rw[k _ (by simp[envN])];exact h.er
 ·rw[k _ (by simp[envN])];exact h.ml
theorem parseInt_any(s:ByteArray)(w:World){B:Nat}(hE:Env w B)(hs:(s.size:Int)<=200000):
 Calls Tryz.prog 92 #[.string s,.int .i64 10,.int .i64 64] w fun e w'=>(match Lib.parseIntB 64 s.data.toList with|.ok v=>e=.returned (.tuple #[.int .i64 v,.nilIface])|_=>∃(j:Int)(N tt:Nat),e=.returned (.tuple #[.int .i64 j,.iface tt (.pointer (some ⟨N,0,none⟩))]))/\Below w.heap.size w w':=by
 rcases h:Lib.parseIntB 64 s.data.toList with v|_|_
 ·
  refine(Any.strconv_ParseInt_10_at64_ok Tryz.laysPi s (by omega) v h w).mono ?_;rintro e w'⟨he,hw⟩;refine⟨he,?_⟩;rcases hw with rfl|⟨t,rfl⟩
  ·exact Below.refl _ _
  ·exact Lib.bytesWorld_below _ _ _
 ·
  obtain⟨tp,p,hv⟩:=hE.es;refine(Any.strconv_ParseInt_10_at64_syntax_var Tryz.laysPi s (by omega) h tp p w hv).mono ?_;rintro e w'⟨N,he,_,_,hb⟩;exact⟨⟨_,N,_,he⟩,hb⟩
 ·
  obtain⟨tp,p,hv⟩:=hE.er;refine(Any.strconv_ParseInt_10_at64_range_var Tryz.laysPi s (by omega) h tp p w hv).mono ?_;rintro e w'⟨N,he,_,_,hb⟩;exact⟨⟨_,N,_,he⟩,hb⟩
theorem parse_low{l:List UInt8}{v:Int}(h:Lib.parseIntB 64 l=.ok v): -9223372036854775808<=v:=by
 unfold Lib.parseIntB at h;cases l with
 |nil=>cases h
 |cons c r=>
  simp only at h;split at h
  ·cases h
  ·cases h
  ·rename_i u _
   split at h
   ·cases h
   ·split at h
    ·cases h
    ·rename_i h1 h2
     injection h with h;subst h;split
     ·rename_i hn
      have:u<=9223372036854775808:=by
       by_cases hq:2^(64-1)<u
       ·exact absurd ⟨hn,hq⟩ h2
       ·omega
      omega
     ·omega
theorem readNumber_any(s:ByteArray)(low:Int)(w:World){B:Nat}(hE:Env w B)(hB:B<=w.heap.size)(hs:(s.size:Int)<=200000):
 Calls Tryz.prog 57 #[.string s,.int .i64 low] w fun e w'=>∃j:Int,e=.returned (.tuple #[.int .i64 j,.bool (rdNum low s.data.toList).isSome])/\(∀v,rdNum low s.data.toList=some v->j=v)/\Below w.heap.size w w':=by
 have HE:Hid (Env w B):=hE;obtain⟨rr,hrr⟩:∃y,rdNum low s.data.toList=y:=⟨_,rfl⟩
 rw[hrr];have HRR:Hid (rdNum low s.data.toList=rr):=hrr;clear hE hrr;go_enter Tryz.func57,Tryz.ntmps57;go_wp2_with fail;refine(parseInt_any s w HE.out hs).mono ?_;rintro e w1⟨he,hb1⟩;have B1:Hid (Below w.heap.size w w1):=hb1;rcases hp:Lib.parseIntB 64 s.data.toList with v|_|_
 ·
  rw[hp]at he;have he':e=.returned (.tuple #[.int .i64 v,.nilIface]):=he;subst he';have HR2:Hid (rr=if low<=v/\v<=9999999999999/\Lib.itoa v=s.data.toList then some v else none):=(by rw[<-HRR.out];unfold rdNum;rw[hp]:rr=if low<=v/\v<=9999999999999/\Lib.itoa v=s.data.toList then some v else none)
  have HLO:Hid (-9223372036854775808<=v):=parse_low hp;clear he hp hb1;by_cases h1:low<=v
  rotate_left
  ·have HN:Hid (rr=none):=(by rw[HR2.out,if_neg (fun h=>h1 h.1)]:rr=none)
   go_wp2_with fail;go_ret2;rw[HN.out];exact⟨v,rfl,fun _ h=>(by cases h),B1.out⟩
  by_cases h2:v<=9999999999999
  rotate_left
  ·have HN:Hid (rr=none):=(by rw[HR2.out,if_neg (fun h=>h2 h.2.1)]:rr=none)
   go_wp2_with fail;go_ret2;rw[HN.out];exact⟨v,rfl,fun _ h=>(by cases h),B1.out⟩
  have h0: -9223372036854775808<=v:=HLO.out;go_wp2_with fail;refine(formatInt_any v h0 (by omega) w1 ((HE.out.below (B1.out.mono hB)).p10)).mono ?_;rintro e w2⟨rfl,k,os,hw2⟩;have B2:Hid (Below w.heap.size w w2):=B1.out.trans ((by rw[hw2];exact Lib.below_grow _ _ (Nat.le_refl _) _ _:Below w1.heap.size w1 w2).mono B1.out.size);clear hw2;obtain⟨sv,hsv⟩:∃y,(⟨(Lib.itoa v).toArray⟩:ByteArray)=y:=⟨_,rfl⟩
  rw[hsv];have HSV:Hid (sv.toList=Lib.itoa v):=(by rw[<-hsv,ByteArray.toList_eq]:sv.toList=Lib.itoa v)
  clear hsv;by_cases h3:Lib.itoa v=s.data.toList
  ·have e3:(sv.toList==s.toList)=true:=by rw[beq_iff_eq,HSV.out,ByteArray.toList_eq];exact h3
   have HN:Hid (rr=some v):=(by rw[HR2.out,if_pos ⟨h1,h2,h3⟩]:rr=some v)
   clear h3;go_wp2_with fail;go_ret2;rw[HN.out];exact⟨v,rfl,fun _ h=>Option.some.inj h,B2.out⟩
  ·have e3:(sv.toList==s.toList)=false:=by rw[beq_eq_false_iff_ne,HSV.out,ByteArray.toList_eq];exact h3
   have HN:Hid (rr=none):=(by rw[HR2.out,if_neg (fun h=>h3 h.2.2)]:rr=none)
   clear h3;go_wp2_with fail;go_ret2;rw[HN.out];exact⟨v,rfl,fun _ h=>(by cases h),B2.out⟩
 ·
  rw[hp]at he;obtain⟨j,N,tt,rfl⟩:=he;have HN:Hid (rr=none):=(by rw[<-HRR.out];unfold rdNum;rw[hp]:rr=none)
  clear hp hb1;go_wp2_with fail;go_ret2;rw[HN.out];exact⟨j,rfl,fun _ h=>(by cases h),B1.out⟩
 ·
  rw[hp]at he;obtain⟨j,N,tt,rfl⟩:=he;have HN:Hid (rr=none):=(by rw[<-HRR.out];unfold rdNum;rw[hp]:rr=none)
  clear hp hb1;go_wp2_with fail;go_ret2;rw[HN.out];exact⟨j,rfl,fun _ h=>(by cases h),B1.out⟩
theorem placeIn_any(s:ByteArray)(l:List (List UInt8))(x:ByteArray)(w:World){B:Nat}(hE:Env w B)(hs:s.size<1000)(ha:(s.data.toList.all fun b=>decide (b.toNat<128))=true)(hf:Lib.fields s.data.toList=l)(hl:l.length<=100):
 Calls Tryz.prog 56 #[.string s,.string x] w fun e w'=>e=.returned (.int .i64 (Lib.idxOfS (l.map stB) x))/\Below w.heap.size w w':=by
 have HT:Hid (Lib.TabIs Tryz.prog w "strings.asciiSpace" .u8 Lib.asciiSpaceTab):=hE.sp;have HA:Hid (∀(j:Nat)b,s.data.toList[j]?=some b->b.toNat<128):=(fun j b h=>by have:=List.all_eq_true.1 ha b (List.mem_of_getElem? h);simpa using this:∀(j:Nat)b,s.data.toList[j]?=some b->b.toNat<128)
 have HF:Hid (Lib.fields s.data.toList=l):=hf;clear hE ha hf;go_enter Tryz.func56,Tryz.ntmps56;go_wp2_with fail;refine(stringsFields_any s w (by omega) HA.out HT.out).mono ?_;rintro e w1⟨rfl,hw1⟩;rw[HF.out]at hw1⊢;have B1:Hid (Below w.heap.size w w1):=(by rw[hw1];exact(Below.refl _ _).alloc (Nat.le_refl _) _:Below w.heap.size w w1)
 have C1:Hid (∀j,j<(l.map stB).length->w1.cell? ⟨w.heap.size,0+j,none⟩=some (.string ((l.map stB).getD j ByteArray.empty))):=(fun j hj=>by
  have hj':j<l.length:=by simpa using hj
  rw[hw1,Nat.zero_add,hp_cell (heap_alloc_newB w _) j];simp[stB,List.getD_eq_getElem?_getD,hj']:∀j,j<(l.map stB).length->w1.cell? ⟨w.heap.size,0+j,none⟩=some (.string ((l.map stB).getD j ByteArray.empty)))
 clear hw1;go_wp2_with fail;refine(Any.slices_Index_string Tryz.laysIx w.heap.size 0 l.length l.length (l.map stB) x w1 (by simp) (by omega) C1.out).mono ?_;rintro e w2⟨rfl,hw2⟩;rw[hw2];clear hw2;have e1:(l.map stB).take l.length=l.map stB:=List.take_of_length_le (by simp);rw[e1];go_wp2_with fail;go_ret;exact⟨rfl,B1.out⟩
def obL(o:OV):List Value:=[.int .i64 (o.at':Int),.bool o.els]
def exP(S:PS)(vO:Value):List Rw:=[⟨117,2,vO,S.op.length,S.op.reverse.flatMap obL⟩]
def tsP:List TypeId:=[88,47,117,68,93,60]
def ppl(S:PS):List (List SV):=if S.ps=[]then[]else S.ps.dropLast++[pat S.op (bodS S)]
theorem ppl_len(S:PS):(ppl S).length=S.ps.length:=by
 unfold ppl;split
 ·rename_i h;rw[h]
 ·rename_i h
  have:S.ps.length≠0:=fun e=>h (List.length_eq_zero_iff.1 e)
  rw[List.length_append,List.length_dropLast];simp;omega
theorem ppl_last{S:PS}(h:S.ps≠[]):ppl S=S.ps.dropLast++[pat S.op (bodS S)]:=if_neg h
theorem ppl_closed{S:PS}(h:S.op=[]):ppl S=S.ps:=by
 unfold ppl;split
 ·rename_i h1;rw[h1]
 ·rename_i h1
  rw[h];show S.ps.dropLast++[bodS S]=S.ps;unfold bodS;rw[List.getLastD_eq_getLast?,List.getLast?_eq_some_getLast h1];exact List.dropLast_concat_getLast h1
def rcL(S:PS)(sH sR sP sO:Sl)(sb km:Nat):List Value:=[.int .i64 S.d,.slice sH.a sH.n sH.c,.slice sR.a sR.n sR.c,.slice sP.a sP.n sP.c,.int .i64 (S.st:Int)]++(S.gv.map Value.bool++[.slice sO.a sO.n sO.c,.pointer (some ⟨sb,0,none⟩),.map (some km)])
def kindF(rb:Nat)(l:List UInt8):Option Value:=
 if l=[100,105,97,108,101,99,116]then some (.func (.func 28) #[.pointer (some ⟨rb,0,none⟩)] #[])
 else if l=[104,101,97,112]then some (.func (.func 29) #[.pointer (some ⟨rb,0,none⟩)] #[])
 else if l=[114,101,103]then some (.func (.func 30) #[.pointer (some ⟨rb,0,none⟩)] #[])
 else if l=[112,114,111,99]then some (.func (.func 31) #[.pointer (some ⟨rb,0,none⟩)] #[])
 else if l=[105,102]then some (.func (.func 32) #[.pointer (some ⟨rb,0,none⟩)] #[])
 else if l=[119,104,105,108,101]then some (.func (.func 33) #[.pointer (some ⟨rb,0,none⟩)] #[])
 else if l=[101,108,115,101]then some (.func (.func 34) #[.pointer (some ⟨rb,0,none⟩)] #[])
 else if l=[101,110,100]then some (.func (.func 35) #[.pointer (some ⟨rb,0,none⟩)] #[])
 else if l=[99,97,108,108]then some (.func (.func 36) #[.pointer (some ⟨rb,0,none⟩)] #[])
 else if 1<=opOf l/\opOf l<=28 then some (.func (.func 37) #[.pointer (some ⟨rb,0,none⟩)] #[])else none
def KM(w:World)(km rb:Nat):Prop:=∃o,w.heap[km]?=some o/\(∀c t f,o≠ .cells c t f)/\∀w':World,w'.heap[km]?=some o->∀s:ByteArray,s.size<=maxLen->(Instr.lookup 58 (.map (some km)) (.string s) true).run Tryz.prog w'=.ok (.tuple #[(kindF rb s.data.toList).getD .nilFunc,.bool (kindF rb s.data.toList).isSome]) w'
structure PR(w:World)(B:Nat)(S:PS)(rb sb nb ob mf km:Nat)(sH sR sP sO:Sl)(bv:List Value):Prop where
 C:w.heap[rb]?=some (.cells (rcL S sH sR sP sO sb km).toArray 60)
 R:Rws w B (srcR (exP S (.slice sO.a sO.n sO.c)) S.hs S.rg (ppl S) (.slice sH.a sH.n sH.c) (.slice sR.a sR.n sR.c) (.slice sP.a sP.n sP.c) bv)
 L:bv.length=S.ps.length
 I:Inv S
 SC:SC w sb nb ob mf 1
 OA:OpsAt w ob
 K:KM w km rb
 E:Env w B
 b:B<=rb
 m:∀o,w.heap[mf]?=some o->∀c t f,o≠ .cells c t f
 p:∀o,w.heap[ob]?=some o->∀c t f,o≠ .cells c t f
theorem exP_typ(S:PS)(vO:Value):∀r∈exP S vO,r.t∈tsP:=by
 intro r hr;simp only[exP,List.mem_cons,List.not_mem_nil,or_false]at hr;subst hr;exact(by decide:117∈tsP)
theorem PR.typ{S:PS}{sH sR sP sO:Sl}{bv:List Value}(j:Nat)(r:Rw)(hr:(srcR (exP S (.slice sO.a sO.n sO.c)) S.hs S.rg (ppl S) (.slice sH.a sH.n sH.c) (.slice sR.a sR.n sR.c) (.slice sP.a sP.n sP.c) bv)[j]?=some r):r.t∈tsP:=
 srcR_typ (exP_typ S _) (by decide) (by decide) (by decide) (by decide) j r hr
structure PK(w:World)(B rb sb nb ob mf km:Nat):Prop where
 SC:SC w sb nb ob mf 1
 OA:OpsAt w ob
 K:KM w km rb
 E:Env w B
 b:B<=rb
 m:∀o,w.heap[mf]?=some o->∀c t f,o≠ .cells c t f
 p:∀o,w.heap[ob]?=some o->∀c t f,o≠ .cells c t f
theorem PR.pk{w:World}{B:Nat}{S:PS}{rb sb nb ob mf km:Nat}{sH sR sP sO:Sl}{bv:List Value}(h:PR w B S rb sb nb ob mf km sH sR sP sO bv):PK w B rb sb nb ob mf km:=⟨h.SC,h.OA,h.K,h.E,h.b,h.m,h.p⟩
theorem PK.fm{w w':World}{B rb sb nb ob mf km:Nat}(h:PK w B rb sb nb ob mf km)(f:Fm tsP B w w'):PK w' B rb sb nb ob mf km:=by
 obtain⟨om,m1,m2⟩:=h.SC.M;obtain⟨oo,o1,o2⟩:=h.OA;obtain⟨ok,k1,k2,k3⟩:=h.K;have hm:=h.m om m1;have hp:=h.p oo o1;have a1:=f.k _ _ m1 (fun c t fz e=>absurd e (hm c t fz));have a2:=f.k _ _ o1 (fun c t fz e=>absurd e (hp c t fz));refine⟨⟨f.k _ _ h.SC.S (fun c t fz e=>by have:76=t:=(Obj.cells.inj e).2.1;subst this;decide),f.k _ _ h.SC.N (fun c t fz e=>by have:9=t:=(Obj.cells.inj e).2.1;subst this;decide),⟨om,a1,m2⟩⟩,⟨oo,a2,o2⟩,⟨ok,f.k _ _ k1 (fun c t fz e=>absurd e (k2 c t fz)),k2,k3⟩,h.E.below f.b,h.b,fun o ho=>?_,fun o ho=>?_⟩
 ·rw[a1]at ho;cases ho;exact hm
 ·rw[a2]at ho;cases ho;exact hp
theorem PR.below{w w':World}{B:Nat}{S:PS}{rb sb nb ob mf km:Nat}{sH sR sP sO:Sl}{bv:List Value}(h:PR w B S rb sb nb ob mf km sH sR sP sO bv)(hb:Below w.heap.size w w'):PR w' B S rb sb nb ob mf km sH sR sP sO bv:=by
 have hz:rb<w.heap.size:=(Array.getElem?_eq_some_iff.1 h.C).1;obtain⟨h1,h2,h3,h4,h5,h6,h7⟩:=h.pk.fm (Fm.of_below hb (by have:=h.b;omega));exact⟨(hb.block rb hz).trans h.C,h.R.below hb,h.L,h.I,h1,h2,h3,h4,h5,h6,h7⟩
def PA(B:Nat)(w:World)(rb sb nb ob mf km:Nat)(r:Option PS)(e:Ending)(w':World):Prop:=
 Fm tsP B w w'/\e=.returned (.bool r.isSome)/\∀S,r=some S->∃(sH sR sP sO:Sl)(bv:List Value),PR w' B S rb sb nb ob mf km sH sR sP sO bv
theorem PR.cells{w:World}{B:Nat}{S:PS}{rb sb nb ob mf km:Nat}{sH sR sP sO:Sl}{bv:List Value}(h:PR w B S rb sb nb ob mf km sH sR sP sO bv):
 w.cell? ⟨rb,0,none⟩=some (.int .i64 S.d)/\w.cell? ⟨rb,1,none⟩=some (.slice sH.a sH.n sH.c)/\w.cell? ⟨rb,2,none⟩=some (.slice sR.a sR.n sR.c)/\w.cell? ⟨rb,3,none⟩=some (.slice sP.a sP.n sP.c)/\w.cell? ⟨rb,4,none⟩=some (.int .i64 (S.st:Int))/\w.cell? ⟨rb,13,none⟩=some (.slice sO.a sO.n sO.c)/\w.cell? ⟨rb,14,none⟩=some (.pointer (some ⟨sb,0,none⟩))/\w.cell? ⟨rb,15,none⟩=some (.map (some km))/\(∀k,k<8->w.cell? ⟨rb,5+k,none⟩=some (.bool (S.gv.getD k false)))/\∀i,w.frozen? ⟨rb,i,none⟩=false:=by
 have c:=fun i=>hp_cell h.C i
 have gl:=h.I.gv;have key:∀i,(rcL S sH sR sP sO sb km).toArray[5+i]?=(S.gv.map Value.bool++[.slice sO.a sO.n sO.c,.pointer (some ⟨sb,0,none⟩),.map (some km)])[i]?:=fun i=>by
  rw[List.getElem?_toArray];unfold rcL;rw[List.getElem?_append_right (by simp)];simp
 have tl:∀i,(S.gv.map Value.bool++[.slice sO.a sO.n sO.c,.pointer (some ⟨sb,0,none⟩),.map (some km)])[8+i]?=([.slice sO.a sO.n sO.c,.pointer (some ⟨sb,0,none⟩),.map (some km)]:List Value)[i]?:=fun i=>by
  rw[List.getElem?_append_right (by rw[List.length_map,gl];omega),List.length_map,gl,Nat.add_sub_cancel_left]
 refine⟨c 0,c 1,c 2,c 3,c 4,(c 13).trans ((key 8).trans (tl 0)),(c 14).trans ((key 9).trans (tl 1)),(c 15).trans ((key 10).trans (tl 2)),fun k hk=>(c (5+k)).trans ((key k).trans ?_),fun i=>hp_frz h.C i⟩;rw[List.getElem?_append_left (by rw[List.length_map,gl];exact hk),List.getElem?_map,List.getElem?_eq_getElem (by rw[gl];exact hk),List.getD_eq_getElem?_getD,List.getElem?_eq_getElem (by rw[gl];exact hk)];rfl
theorem rows_setR{u:World}{B rb:Nat}{rs:List Rw}{cs:Array Value}(h:Rws u B rs)(ht:∀(j:Nat)(r:Rw),rs[j]?=some r->r.t∈tsP/\r.t≠60)(hc:u.heap[rb]?=some (.cells cs 60))(i:Nat)(v:Value):Rws (u.setCell ⟨rb,i,none⟩ v) B rs:=
 h.keep fun j r k hr hk=>Below.heap_setCell u ⟨rb,i,none⟩ v k (fun e=>by
  have e':k=rb:=e;subst e';rcases(h.own j r hr).2 with⟨h',_⟩|⟨g,cap,cur,h',_,hh,_⟩
  ·rw[h']at hk;cases hk
  ·rw[h']at hk
   have:g=k:=Option.some.inj hk;subst this;rw[hc]at hh;exact(ht j r hr).2 (Obj.cells.inj (Option.some.inj hh)).2.1.symm)
theorem srcR_ne{S:PS}{hs:List HS}{rg:List VV}{PL:List (List SV)}{vO vH vR vP:Value}{bv:List Value}(j:Nat)(r:Rw)(hr:(srcR (exP S vO) hs rg PL vH vR vP bv)[j]?=some r):r.t∈tsP/\r.t≠60:=by
 have h:=srcR_typ (ts:=[88,47,117,68,93]) (fun r hr=>by
  simp only[exP,List.mem_cons,List.not_mem_nil,or_false]at hr;subst hr;exact(by decide:117∈[88,47,117,68,93])) (by decide) (by decide) (by decide) (by decide) j r hr
 have k:∀t∈[88,47,117,68,93],t∈tsP/\t≠60:=by decide
 exact k _ h
theorem PR.set{w:World}{B:Nat}{S':PS}{rb sb nb ob mf km:Nat}{sH' sR' sP' sO':Sl}{bv':List Value}{i:Nat}{v:Value}{cs:Array Value}(hc:w.heap[rb]?=some (.cells cs 60))(hs:cs.setIfInBounds i v=(rcL S' sH' sR' sP' sO' sb km).toArray)(hR:Rws w B (srcR (exP S' (.slice sO'.a sO'.n sO'.c)) S'.hs S'.rg (ppl S') (.slice sH'.a sH'.n sH'.c) (.slice sR'.a sR'.n sR'.c) (.slice sP'.a sP'.n sP'.c) bv'))(hL:bv'.length=S'.ps.length)(hI:Inv S')(hk:PK w B rb sb nb ob mf km):
 PR (w.setCell ⟨rb,i,none⟩ v) B S' rb sb nb ob mf km sH' sR' sP' sO' bv'/\Fm tsP B w (w.setCell ⟨rb,i,none⟩ v):=by
 have f:Fm tsP B w (w.setCell ⟨rb,i,none⟩ v):=Fm.of_set (a:=⟨rb,i,none⟩) hc (by decide) hk.b v;obtain⟨h1,h2,h3,h4,h5,h6,h7⟩:=hk.fm f;refine⟨⟨?_,rows_setR hR srcR_ne hc i v,hL,hI,h1,h2,h3,h4,h5,h6,h7⟩,f⟩;rw[heap_setZ hc i v,hs]
theorem rcL_set0(S:PS)(sH sR sP sO:Sl)(sb km:Nat)(d:Int):(rcL S sH sR sP sO sb km).toArray.setIfInBounds 0 (.int .i64 d)=(rcL {S with d:=d} sH sR sP sO sb km).toArray:=by rw[List.setIfInBounds_toArray];rfl
theorem rcL_set1(S:PS)(sH sR sP sO sH':Sl)(hs:List HS)(sb km:Nat):(rcL S sH sR sP sO sb km).toArray.setIfInBounds 1 (.slice sH'.a sH'.n sH'.c)=(rcL {S with hs:=hs} sH' sR sP sO sb km).toArray:=by rw[List.setIfInBounds_toArray];rfl
theorem rcL_set3(S S':PS)(sH sR sP sO sP':Sl)(sb km:Nat)(h1:S'.d=S.d)(h2:S'.st=S.st)(h3:S'.gv=S.gv):(rcL S sH sR sP sO sb km).toArray.setIfInBounds 3 (.slice sP'.a sP'.n sP'.c)=(rcL S' sH sR sP' sO sb km).toArray:=by rw[List.setIfInBounds_toArray];unfold rcL;rw[h1,h2,h3];rfl
theorem rcL_set4(S:PS)(sH sR sP sO:Sl)(sb km:Nat)(k:Nat):(rcL S sH sR sP sO sb km).toArray.setIfInBounds 4 (.int .i64 (k:Int))=(rcL {S with st:=k} sH sR sP sO sb km).toArray:=by rw[List.setIfInBounds_toArray];rfl
theorem rcL_set13(S S':PS)(sH sR sP sO sO':Sl)(sb km:Nat)(hg:S.gv.length=8)(h1:S'.d=S.d)(h2:S'.st=S.st)(h3:S'.gv=S.gv):(rcL S sH sR sP sO sb km).toArray.setIfInBounds 13 (.slice sO'.a sO'.n sO'.c)=(rcL S' sH sR sP sO' sb km).toArray:=by
 rw[List.setIfInBounds_toArray];unfold rcL;rw[h1,h2,h3,List.set_append,if_neg (by simp),List.set_append,if_neg (by simp[hg])];simp[hg]
theorem rcL_setG(S:PS)(sH sR sP sO:Sl)(sb km k:Nat)(hg:S.gv.length=8)(hk:k<8):(rcL S sH sR sP sO sb km).toArray.setIfInBounds (5+k) (.bool true)=(rcL {S with gv:=S.gv.set k true} sH sR sP sO sb km).toArray:=by
 rw[List.setIfInBounds_toArray];unfold rcL;rw[List.set_append,if_neg (by simp),List.set_append,if_pos (by simp[hg];omega)];simp
theorem fld_first:∀l:List UInt8,∃r,l=fd (fldS l) 0++r/\∀c,r.head?=some c->c=32
 |[]=>⟨[],by simp[fd,fldS]⟩
 |c::l=>by
  by_cases hc:c=32
  ·subst hc
   exact⟨32::l,by rw[fld_sp];simp[fd]⟩
  ·obtain⟨r,h1,h2⟩:=fld_first l
   refine⟨r,?_,h2⟩;unfold fldS;rw[if_neg hc];cases h:fldS l with
   |nil=>exact absurd h (fld_ne l)
   |cons f fs=>
    rw[h]at h1;simpa[fd]using h1
theorem fld_sizeM:∀(l f:List UInt8),f∈fldS l->f.length<=l.length
 |[],f,hf=>by
  have:f=[]:=by simpa[fldS]using hf
  subst this;simp
 |c::l,f,hf=>by
  unfold fldS at hf;split at hf
  ·rcases List.mem_cons.1 hf with rfl|hf
   ·simp
   ·have:=fld_sizeM l f hf;simp;omega
  ·split at hf
   ·exact absurd ‹_› (fld_ne l)
   ·rename_i g gs hg
    rcases List.mem_cons.1 hf with rfl|hf
    ·have:=fld_sizeM l g (by rw[hg];simp);simp;omega
    ·have:=fld_sizeM l f (by rw[hg];simp[hf]);simp;omega
theorem fld_size(l:List UInt8)(i:Nat):(fd (fldS l) i).length<=l.length:=by
 unfold fd;rw[List.getD_eq_getElem?_getD];cases h:(fldS l)[i]? with
 |none=>simp
 |some f=>exact fld_sizeM l f (List.mem_of_getElem? h)
theorem az_32{c:UInt8}(h:isAz c=true):c≠32:=fun e=>by subst e;revert h;decide
theorem ins_word{l:List UInt8}{x:NV}(h:insL 1 l=some x):x.op=opOf (fd (fldS l) 0)/\1<=x.op/\x.op<=34:=by
 unfold insL at h;split at h
 ·cases h
 ·rename_i h0
  obtain⟨o1,o2,o3⟩:=op_back rfl h0;generalize ho:opOf (l.take (pre isAz l))=op at h h0 o1 o2 o3;obtain⟨n1,n2,n3⟩:=nm_all o1 o2;have hx:x.op=op:=by
   rw[fit_op]at h;cases hf:fit (ptL 1 (shpI op)) (l.drop (pre isAz l)) nv0 with
   |none=>rw[hf]at h;cases h
   |some y=>rw[hf]at h;cases h;rfl
  have hr:∀c,(l.drop (pre isAz l)).head?=some c->c=32:=by
   intro c hc;rw[ptL_shL 1 op o1 o2 (.inr rfl)]at h;cases hl:l.drop (pre isAz l)with
   |nil=>rw[hl]at hc;cases hc
   |cons q l'=>
    rw[hl]at hc h;simp only[List.head?_cons,Option.some.injEq]at hc;subst hc;split at h
    ·cases h
    ·rw[fit_cons_lit 32 _ _ _ (by decide)]at h
     simp only at h;split at h
     ·assumption
     ·cases h
  have hw:fd (fldS l) 0=nmL op:=by
   have e:=fld_head (nmL op) (l.drop (pre isAz l)) (fun c hc=>az_32 (n1 c hc)) hr;rw[<-o3,List.take_append_drop]at e;rw[e,o3]
  rw[hw,n3,hx];exact⟨rfl,o1,o2⟩
theorem ins_label{l:List UInt8}(h1:1<=opOf (fd (fldS l) 0)):fit (ptL 1 64) l nv0=none:=by
 obtain⟨o1,o2,o3⟩:=op_back rfl (by omega:opOf (fd (fldS l) 0)≠0);obtain⟨n1,n2,n3⟩:=nm_all o1 o2;refine label_head (.inr rfl) (fun e=>?_);obtain⟨r,e1,e2⟩:=fld_first l;rw[o3]at e1;rw[e1]at e;cases hn:nmL (opOf (fd (fldS l) 0))with
 |nil=>exact n2 hn
 |cons c t=>
  rw[hn]at e n1;have:c=76:=by simpa[lbC]using e
  have q:=n1 c (by simp);rw[this]at q;revert q;decide
def inpS(S:PS)(l:List UInt8):Option PS:=match rdLine 1 l with|some (_,x)=>(if S.st=3 then some (addS S ⟨1,x.op,x.d,x.a,x.b,x.imm,x.h,0,0,0,0⟩)else none)|none=>none
theorem inp_ins(S:PS)(l:List UInt8)(h:1<=opOf (fd (fldS l) 0)/\opOf (fd (fldS l) 0)<=28):inpS S l=if S.st=3 then insS S l else none:=by
 unfold inpS rdLine insS;rw[ins_label h.1];simp only;cases hi:insL 1 l with
 |none=>simp
 |some x=>
  obtain⟨e1,e2,e3⟩:=ins_word hi;have hj:jumpB x.op=false:=by unfold jumpB;simp;omega
  have hc:canS x=implIns x.op x.d x.a x.b x.imm x.h:=by unfold canS;rw[hj];rfl
  simp only[hc];by_cases hq:implIns x.op x.d x.a x.b x.imm x.h=true
  ·have hb:implIns x.op x.d x.a x.b x.imm x.h=true/\x.op<29:=⟨hq,by omega⟩
   simp only[if_pos hq,if_pos hb];rfl
  ·have hb:¬(implIns x.op x.d x.a x.b x.imm x.h=true/\x.op<29):=fun q=>hq q.1
   simp only[if_neg hq,if_neg hb];simp
theorem ins_no(S:PS)(l:List UInt8)(h:¬(1<=opOf (fd (fldS l) 0)/\opOf (fd (fldS l) 0)<=28)):insS S l=none:=by
 unfold insS;cases hi:insL 1 l with
 |none=>rfl
 |some x=>
  obtain⟨e1,e2,e3⟩:=ins_word hi;simp only;rw[if_neg (fun q=>h (by omega))]
def takS(S:PS)(l:List UInt8)(f:List (List UInt8)):Option PS:=
 if fd f 0=[100,105,97,108,101,99,116]then diaS S f
 else if fd f 0=[104,101,97,112]then heapS S f
 else if fd f 0=[114,101,103]then regS S f
 else if fd f 0=[112,114,111,99]then procS S f
 else if fd f 0=[105,102]then(if S.st=3 then opnS S 2 f else none)
 else if fd f 0=[119,104,105,108,101]then(if S.st=3 then opnS S 3 f else none)
 else if fd f 0=[101,108,115,101]then elsS S f
 else if fd f 0=[101,110,100]then endS S f
 else if fd f 0=[99,97,108,108]then(if S.st=3 then calS S f else none)
 else if 1<=opOf (fd f 0)/\opOf (fd f 0)<=28 then inpS S l else none
theorem tak_lin{S:PS}(h:Inv S)(l:List UInt8):takS S l (fldS l)=linS S l:=by
 have hi:=inp_ins S l;have hn:=ins_no S l;unfold takS linS stmS;generalize fldS l=f at hi hn⊢;by_cases h3:S.st=3
 ·simp only[if_pos h3]
  by_cases ho:1<=opOf (fd f 0)/\opOf (fd f 0)<=28
  ·rw[if_pos ho,hi ho,if_pos h3]
  ·rw[if_neg ho,hn ho]
 ·have e1:elsS S f=none:=by unfold elsS;rw[h.op h3]
  have e2:endS S f=none:=by unfold endS;rw[h.op h3]
  simp only[if_neg h3,e1,e2];by_cases ho:1<=opOf (fd f 0)/\opOf (fd f 0)<=28
  ·rw[if_pos ho,hi ho,if_neg h3]
   simp
  ·rw[if_neg ho]
   simp
theorem fld_count:∀l:List UInt8,(fldS l).length=l.count 32+1
 |[]=>rfl
 |c::l=>by
  have ih:=fld_count l;by_cases hc:c=32
  ·subst hc
   rw[fld_sp];simp[ih]
  ·unfold fldS
   rw[if_neg hc,List.count_cons_of_ne hc];cases h:fldS l with
   |nil=>exact absurd h (fld_ne l)
   |cons f fs=>rw[h]at ih;simpa using ih
theorem split_fld:∀(k:Nat)(l:List UInt8),l.count 32<=k->Lib.splitK [32] 0 k l=fldS l
 |0,l,h=>by
  have:∀c∈l,c≠32:=fun c hc e=>by subst e;have:=List.count_pos_iff.2 hc;omega
  rw[fld_word l this];rfl
 |k+1,l,h=>by
  unfold Lib.splitK;rw[Lib.index_one];obtain⟨r,e1,e2⟩:=fld_first l;have nw:∀c∈fd (fldS l) 0,c≠32:=fun c hc=>(fld_mem l _ (by cases hf:fldS l with|nil=>exact absurd hf (fld_ne l)|cons f fs=>simp[fd]) c hc).1
  generalize hw:fd (fldS l) 0=w at e1 nw;subst e1;clear hw;cases r with
  |nil=>
   rw[List.append_nil,fld_word w nw];have:Lib.indexByte w 32= -1:=by
    clear h;induction w with
    |nil=>rfl
    |cons c w ih=>unfold Lib.indexByte;simp[nw c (by simp),ih (fun c hc=>nw c (by simp[hc]))]
   rw[this];rfl
  |cons c r=>
   have hc:c=32:=e2 c rfl;subst hc;have:Lib.indexByte (w++32::r) 32=w.length:=by
    clear h;induction w with
    |nil=>unfold Lib.indexByte;simp
    |cons c w ih=>
     have i:=ih (fun c hc=>nw c (by simp[hc]));show Lib.indexByte (c::(w++32::r)) 32=_;unfold Lib.indexByte;rw[i];simp[nw c (by simp)]
   rw[this,fld_app w _ nw,fld_sp];have hh:((w.length:Int)== -1)=false:=by rw[beq_eq_false_iff_ne];omega
   rw[hh];simp only[Bool.false_eq_true,if_false,Int.toNat_natCast,Nat.add_zero,List.length_singleton];rw[split_fld k ((w++32::r).drop (w.length+1)) (by
    rw[List.count_append,List.count_cons_self]at h;have:(w++32::r).drop (w.length+1)=r:=by rw[List.drop_append];simp
    rw[this];omega)]
   simp
end Go.Proofs.YtblfmpgdhpbffaaGreatDoor
