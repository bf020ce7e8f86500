import Derived.Test.YtfpeecaaleijcaaGreatDoorOfCl
import Derived.Test.YtfpeecaaleijcaaGreatDoorOfPsLay
import Derived.Test.YtfpeecaaleijcaaGreatDoorOfPzCell
import Derived.Deep.DeepCutAuto
import Derived.Test.YtfpeecaaleijcaaGreatDoorPzBnd
import Derived.Test.YtfpeecaaleijcaaGreatDoorOfRdLine
import Derived.Lib.SplitLaws
import Derived.Test.YtfpeecaaleijcaaGreatDoorOfPzNum
set_option maxHeartbeats 3200000
set_option maxRecDepth 20000
namespace Go.Proofs.YtfpeecaaleijcaaGreatDoor
open Go.RowKit Go.Proofs
variable {l:List UInt8}{bv:List Value}{B km mf nb ob rb sb:Nat}{w w':World}
def Ru:List String:=["strings.asciiSpace","internal/strconv.uint64pow10","strconv.ErrSyntax","strconv.ErrRange","internal/bytealg.MaxLen"]
structure Env(w:World)(B:Nat):Prop where
 sp:Lib.TabIs Tryz.prog w "strings.asciiSpace" .u8 Lib.asciiSpaceTab
 p10:Lib.TabIs Tryz.prog w "internal/strconv.uint64pow10" .u64 Lib.pow10Tab
 es:∃tp p,w.var? Tryz.prog "strconv.ErrSyntax" =some #[.iface tp p]
 er:∃tp p,w.var? Tryz.prog "strconv.ErrRange" =some #[.iface tp p]
 ml:∃m:Int,w.var? Tryz.prog "internal/bytealg.MaxLen" =some #[Vi m]
 g:∀n∈Ru,∀g,Tryz.prog.globalNamed n=some g->g<B
theorem WT{n:String}(hb:Below B w w')(hg:∀g,Tryz.prog.globalNamed n=some g->g<B):w'.var? Tryz.prog n=w.var? Tryz.prog n:=by
 unfold World.var?;cases h:Tryz.prog.globalNamed n with
 |none=>rfl
 |some g=>simp only[Option.bind_some];rw[hb.block g (hg g h)]
theorem Env.below(h:Env w B)(hb:Below B w w'):Env w' B:=by
 have k:∀n∈Ru,w'.var? Tryz.prog n=w.var? Tryz.prog n:=fun n hn=>WT hb (h.g n hn)
 refine⟨?_,?_,?_,?_,?_,h.g⟩
 ·unfold Lib.TabIs;rw[k _ (by simp[Ru])];exact h.sp
 ·unfold Lib.TabIs;rw[k _ (by simp[Ru])];exact h.p10
 ·rw[k _ (by simp[Ru])];exact h.es
 ·rw[k _ (by simp[Ru])];exact h.er
 ·rw[k _ (by simp[Ru])];exact h.ml
theorem Qa(s:ByteArray)(w:World)(hE:Env w B)(hs:(s.size:Int)<=200000):
 Calls Tryz.prog 120 #[.string s,Vi 10,Vi 64] w fun e w'=>(match Lib.parseIntB 64 s.data.toList with|.ok v=>e=.returned (.tuple #[Vi v,.nilIface])|_=>∃(j:Int)(N tt:Nat),e=.returned (.tuple #[Vi j,.iface tt (Vq N)]))/\Below w.heap.size w w':=by
 rcases h:Lib.parseIntB 64 s.data.toList with v|_|_
 ·
  refine(Any.strconv_ParseInt_10_at64_ok Tryz.laysPi s (by omega) v h w).mono ?_;rintro e w'⟨he,hw⟩;refine⟨he,?_⟩;rcases hw with rfl|⟨t,rfl⟩
  ·exact Below.refl _ _
  ·exact Lib.bytesWorld_below _ _ _
 ·
  obtain⟨tp,p,hv⟩:=hE.es;refine(Any.strconv_ParseInt_10_at64_syntax_var Tryz.laysPi s (by omega) h tp p w hv).mono ?_;rintro e w'⟨N,he,_,_,hb⟩;exact⟨⟨_,N,_,he⟩,hb⟩
 ·
  obtain⟨tp,p,hv⟩:=hE.er;refine(Any.strconv_ParseInt_10_at64_range_var Tryz.laysPi s (by omega) h tp p w hv).mono ?_;rintro e w'⟨N,he,_,_,hb⟩;exact⟨⟨_,N,_,he⟩,hb⟩
theorem Vj{v:Int}(h:Lib.parseIntB 64 l=.ok v): -9223372036854775808<=v:=by
 unfold Lib.parseIntB at h;cases l with
 |nil=>cases h
 |cons c r=>
  simp only at h;split at h
  ·cases h
  ·cases h
  ·rename_i u _
   split at h
   ·cases h
   ·split at h
    ·cases h
    ·rename_i h1 h2
     injection h with h;subst h;split
     ·rename_i hn
      have:u<=9223372036854775808:=by
       by_cases hq:2^(64-1)<u
       ·exact absurd ⟨hn,hq⟩ h2
       ·omega
      omega
     ·omega
theorem Co(s:ByteArray)(low:Int)(w:World)(hE:Env w B)(hB:B<=w.heap.size)(hs:(s.size:Int)<=200000):
 Calls Tryz.prog 87 #[.string s,Vi low] w fun e w'=>∃j:Int,e=.returned (.tuple #[Vi j,.bool (rdNum low s.data.toList).isSome])/\(∀v,rdNum low s.data.toList=some v->j=v)/\Below w.heap.size w w':=by
 have HE:=hxy hE;obtain⟨rr,hrr⟩:=Ae (rdNum low s.data.toList);rw[hrr];have HRR:=hxy hrr;clear hE hrr;go_enter Tryz.func87,Tryz.ntmps87;go_wp2_with fail;refine(Qa s w HE.out hs).mono ?_;rintro e w1⟨he,hb1⟩;have B1:=hxy hb1;rcases hp:Lib.parseIntB 64 s.data.toList with v|_|_
 ·
  rw[hp]at he;have he':e=.returned (.tuple #[Vi v,.nilIface]):=he;subst he';have HR2:Hid (rr=if low<=v/\v<=9999999999999/\Lib.itoa v=s.data.toList then some v else none):=(by rw[<-HRR.out];unfold rdNum;rw[hp]:rr=if low<=v/\v<=9999999999999/\Lib.itoa v=s.data.toList then some v else none)
  have HLO:=hxy (Vj hp);clear he hp hb1;by_cases h1:low<=v
  rotate_left
  ·have HN:Hid (rr=none):=(by rw[HR2.out,if_neg (fun h=>h1 h.1)]:rr=none)
   go_wp2_with fail;go_ret2;rw[HN.out];exact⟨v,rfl,fun _ h=>(by cases h),B1.out⟩
  by_cases h2:v<=9999999999999
  rotate_left
  ·have HN:Hid (rr=none):=(by rw[HR2.out,if_neg (fun h=>h2 h.2.1)]:rr=none)
   go_wp2_with fail;go_ret2;rw[HN.out];exact⟨v,rfl,fun _ h=>(by cases h),B1.out⟩
  have h0:=HLO.out;go_wp2_with fail;refine(Ij v h0 (by omega) w1 ((HE.out.below (B1.out.mono hB)).p10)).mono ?_;rintro e w2⟨rfl,k,os,hw2⟩;have B2:Hid (Below w.heap.size w w2):=B1.out.trans ((by rw[hw2];exact Lib.below_grow _ _ jG _ _:Below w1.heap.size w1 w2).mono B1.out.size);clear hw2;obtain⟨sv,hsv⟩:=Ae ((⟨(Lib.itoa v).toArray⟩:ByteArray));rw[hsv];have HSV:Hid (sv.toList=Lib.itoa v):=(by rw[<-hsv,ByteArray.toList_eq]:sv.toList=Lib.itoa v)
  clear hsv;by_cases h3:Lib.itoa v=s.data.toList
  ·have e3:(sv.toList==s.toList)=true:=by rw[beq_iff_eq,HSV.out,ByteArray.toList_eq];exact h3
   have HN:Hid (rr=some v):=(by rw[HR2.out,if_pos ⟨h1,h2,h3⟩]:rr=some v)
   clear h3;go_wp2_with fail;go_ret2;rw[HN.out];exact⟨v,rfl,fun _ h=>Option.some.inj h,B2.out⟩
  ·have e3:(sv.toList==s.toList)=false:=by rw[beq_eq_false_iff_ne,HSV.out,ByteArray.toList_eq];exact h3
   have HN:Hid (rr=none):=(by rw[HR2.out,if_neg (fun h=>h3 h.2.2)]:rr=none)
   clear h3;go_wp2_with fail;go_ret2;rw[HN.out];exact⟨v,rfl,fun _ h=>(by cases h),B2.out⟩
 ·
  rw[hp]at he;obtain⟨j,N,tt,rfl⟩:=he;have HN:Hid (rr=none):=(by rw[<-HRR.out];unfold rdNum;rw[hp]:rr=none)
  clear hp hb1;go_wp2_with fail;go_ret2;rw[HN.out];exact⟨j,rfl,fun _ h=>(by cases h),B1.out⟩
 ·
  rw[hp]at he;obtain⟨j,N,tt,rfl⟩:=he;have HN:Hid (rr=none):=(by rw[<-HRR.out];unfold rdNum;rw[hp]:rr=none)
  clear hp hb1;go_wp2_with fail;go_ret2;rw[HN.out];exact⟨j,rfl,fun _ h=>(by cases h),B1.out⟩
theorem EM(s:ByteArray)(l:List (List UInt8))(x:ByteArray)(w:World)(hE:Env w B)(hs:s.size<1000)(ha:(s.data.toList.all fun b=>decide (b.toNat<128))=true)(hf:Lib.fields s.data.toList=l)(hl:l.length<=100):
 Calls Tryz.prog 86 #[.string s,.string x] w fun e w'=>e=.returned (Vi (Lib.idxOfS (l.map Ck) x))/\Below w.heap.size w w':=by
 have HT:=hxy hE.sp;have HA:Hid (∀(j:Nat)b,s.data.toList[j]?=some b->b.toNat<128):=(fun j b h=>by have:=List.all_eq_true.1 ha b (List.mem_of_getElem? h);simpa using this:∀(j:Nat)b,s.data.toList[j]?=some b->b.toNat<128)
 have HF:=hxy hf;clear hE ha hf;go_enter Tryz.func86,Tryz.ntmps86;go_wp2_with fail;refine(EQ s w (by omega) HA.out HT.out).mono ?_;rintro e w1⟨rfl,hw1⟩;rw[HF.out]at hw1⊢;have B1:Hid (Below w.heap.size w w1):=(by rw[hw1];exact Ak:Below w.heap.size w w1)
 have C1:Hid (∀j,j<(l.map Ck).length->w1.cell? ⟨w.heap.size,0+j,none⟩=some (.string ((l.map Ck).getD j ByteArray.empty))):=(fun j hj=>by
  have hj':j<l.length:=by simpa using hj
  rw[hw1,Nat.zero_add,AV (Ai w _) j];simp[Ck,hj']:∀j,j<(l.map Ck).length->w1.cell? ⟨w.heap.size,0+j,none⟩=some (.string ((l.map Ck).getD j ByteArray.empty)))
 clear hw1;go_wp2_with fail;refine(Any.slices_Index_string Tryz.laysIx w.heap.size 0 l.length l.length (l.map Ck) x w1 (by simp) (by omega) C1.out).mono ?_;rintro e w2⟨rfl,hw2⟩;rw[hw2];clear hw2;have e1:(l.map Ck).take l.length=l.map Ck:=List.take_of_length_le (by simp);rw[e1];go_wp2_with fail;go_ret;exact⟨rfl,B1.out⟩
def Lh(o:OV):List Value:=[Vi (o.at':Int),.bool o.els]
def MB(S:PS)(vO:Value):List Rw:=[⟨179,2,vO,S.op.length,S.op.reverse.flatMap Lh⟩]
def GL:List TypeId:=[40,42,179,38,89,85]
def LZ(S:PS):List (List SV):=if S.ps=[]then[]else S.ps.dropLast++[pat S.op (Ac S)]
theorem VT(S:PS):(LZ S).length=S.ps.length:=by
 unfold LZ;split
 ·rename_i h;rw[h]
 ·rename_i h
  have:S.ps.length≠0:=fun e=>h (List.length_eq_zero_iff.1 e)
  rw[List.length_append,List.length_dropLast];simp;omega
theorem Hg{S:PS}(h:S.ps≠[]):LZ S=S.ps.dropLast++[pat S.op (Ac S)]:=if_neg h
theorem Iz{S:PS}(h:S.op=[]):LZ S=S.ps:=by
 unfold LZ;split
 ·rename_i h1;rw[h1]
 ·rename_i h1
  rw[h];show S.ps.dropLast++[Ac S]=S.ps;unfold Ac;rw[List.getLastD_eq_getLast?,List.getLast?_eq_some_getLast h1];exact List.dropLast_concat_getLast h1
def EA(S:PS)(sH sR sP sO:Sl)(sb km:Nat):List Value:=[Vi S.d,.slice sH.a sH.n sH.c,.slice sR.a sR.n sR.c,.slice sP.a sP.n sP.c,Vi (S.st:Int)]++(S.gv.map Value.bool++[.slice sO.a sO.n sO.c,Vq sb,.map (some km)])
def Ja(rb:Nat)(l:List UInt8):Option Value:=
 if l=[100,105,97,108,101,99,116]then some (.func (.func 53) #[Vq rb] #[])
 else if l=[104,101,97,112]then some (.func (.func 54) #[Vq rb] #[])
 else if l=[114,101,103]then some (.func (.func 55) #[Vq rb] #[])
 else if l=[112,114,111,99]then some (.func (.func 56) #[Vq rb] #[])
 else if l=[105,102]then some (.func (.func 57) #[Vq rb] #[])
 else if l=[119,104,105,108,101]then some (.func (.func 58) #[Vq rb] #[])
 else if l=[101,108,115,101]then some (.func (.func 59) #[Vq rb] #[])
 else if l=[101,110,100]then some (.func (.func 60) #[Vq rb] #[])
 else if l=[99,97,108,108]then some (.func (.func 61) #[Vq rb] #[])
 else if 1<=Cg l/\Cg l<=28 then some (.func (.func 62) #[Vq rb] #[])else none
def KM(w:World)(km rb:Nat):Prop:=∃o,w.heap[km]?=some o/\(∀c t f,o≠ .cells c t f)/\∀w':World,w'.heap[km]?=some o->∀s:ByteArray,s.size<=maxLen->(Instr.lookup 83 (.map (some km)) (.string s) true).run Tryz.prog w'=.ok (.tuple #[(Ja rb s.data.toList).getD .nilFunc,.bool (Ja rb s.data.toList).isSome]) w'
structure PR(w:World)(B:Nat)(S:PS)(rb sb nb ob mf km:Nat)(sH sR sP sO:Sl)(bv:List Value):Prop where
 C:w.heap[rb]?=some (.cells (EA S sH sR sP sO sb km).toArray 85)
 R:Et w B (Df (MB S (.slice sO.a sO.n sO.c)) S.hs S.rg (LZ S) (.slice sH.a sH.n sH.c) (.slice sR.a sR.n sR.c) (.slice sP.a sP.n sP.c) bv)
 L:bv.length=S.ps.length
 I:Inv S
 SC:SC w sb nb ob mf 1
 OA:Fe w ob
 K:KM w km rb
 E:Env w B
 b:B<=rb
 m:∀o,w.heap[mf]?=some o->∀c t f,o≠ .cells c t f
 p:∀o,w.heap[ob]?=some o->∀c t f,o≠ .cells c t f
structure PK(w:World)(B rb sb nb ob mf km:Nat):Prop where
 SC:SC w sb nb ob mf 1
 OA:Fe w ob
 K:KM w km rb
 E:Env w B
 b:B<=rb
 m:∀o,w.heap[mf]?=some o->∀c t f,o≠ .cells c t f
 p:∀o,w.heap[ob]?=some o->∀c t f,o≠ .cells c t f
theorem PR.pk{S:PS}{sH sR sP sO:Sl}(h:PR w B S rb sb nb ob mf km sH sR sP sO bv):PK w B rb sb nb ob mf km:=⟨h.SC,h.OA,h.K,h.E,h.b,h.m,h.p⟩
theorem PK.fm(h:PK w B rb sb nb ob mf km)(f:Fm GL B w w'):PK w' B rb sb nb ob mf km:=by
 obtain⟨om,m1,m2⟩:=h.SC.M;obtain⟨oo,o1,o2⟩:=h.OA;obtain⟨ok,k1,k2,k3⟩:=h.K;have hm:=h.m om m1;have hp:=h.p oo o1;have a1:=f.k _ _ m1 (fun c t fz e=>absurd e (hm c t fz));have a2:=f.k _ _ o1 (fun c t fz e=>absurd e (hp c t fz));refine⟨⟨f.k _ _ h.SC.S (fun c t fz e=>by have:108=t:=(Obj.cells.inj e).2.1;subst this;decide),f.k _ _ h.SC.N (fun c t fz e=>by have:9=t:=(Obj.cells.inj e).2.1;subst this;decide),⟨om,a1,m2⟩⟩,⟨oo,a2,o2⟩,⟨ok,f.k _ _ k1 (fun c t fz e=>absurd e (k2 c t fz)),k2,k3⟩,h.E.below f.b,h.b,fun o ho=>?_,fun o ho=>?_⟩
 ·rw[a1]at ho;cases ho;exact hm
 ·rw[a2]at ho;cases ho;exact hp
theorem PR.below{S:PS}{sH sR sP sO:Sl}(h:PR w B S rb sb nb ob mf km sH sR sP sO bv)(hb:Below w.heap.size w w'):PR w' B S rb sb nb ob mf km sH sR sP sO bv:=by
 have hz:rb<w.heap.size:=(jH.1 h.C).1;obtain⟨h1,h2,h3,h4,h5,h6,h7⟩:=h.pk.fm (Fm.of_below hb (by have:=h.b;omega));exact⟨(hb.block rb hz).trans h.C,h.R.below hb,h.L,h.I,h1,h2,h3,h4,h5,h6,h7⟩
def PA(B:Nat)(w:World)(rb sb nb ob mf km:Nat)(r:Option PS)(e:Ending)(w':World):Prop:=
 Fm GL B w w'/\e=.returned (.bool r.isSome)/\∀S,r=some S->∃(sH sR sP sO:Sl)(bv:List Value),PR w' B S rb sb nb ob mf km sH sR sP sO bv
theorem PR.cells{S:PS}{sH sR sP sO:Sl}(h:PR w B S rb sb nb ob mf km sH sR sP sO bv):
 w.cell? (Va rb 0)=some (Vi S.d)/\w.cell? (Va rb 1)=some (.slice sH.a sH.n sH.c)/\w.cell? (Va rb 2)=some (.slice sR.a sR.n sR.c)/\w.cell? (Va rb 3)=some (.slice sP.a sP.n sP.c)/\w.cell? (Va rb 4)=some (Vi (S.st:Int))/\w.cell? (Va rb 13)=some (.slice sO.a sO.n sO.c)/\w.cell? (Va rb 14)=some (Vq sb)/\w.cell? (Va rb 15)=some (.map (some km))/\(∀k,k<8->w.cell? (Va rb (5+k))=some (.bool (S.gv.getD k false)))/\∀i,w.frozen? (Va rb i)=false:=by
 have c:=fun i=>AV h.C i
 have gl:=h.I.gv;have key:∀i,(EA S sH sR sP sO sb km).toArray[5+i]?=(S.gv.map Value.bool++[.slice sO.a sO.n sO.c,Vq sb,.map (some km)])[i]?:=fun i=>by
  rw[List.getElem?_toArray];unfold EA;rw[List.getElem?_append_right (by simp)];simp
 have tl:∀i,(S.gv.map Value.bool++[.slice sO.a sO.n sO.c,Vq sb,.map (some km)])[8+i]?=([.slice sO.a sO.n sO.c,Vq sb,.map (some km)]:List Value)[i]?:=fun i=>by
  rw[List.getElem?_append_right (by rw[List.length_map,gl];omega),List.length_map,gl,Nat.add_sub_cancel_left]
 refine⟨c 0,c 1,c 2,c 3,c 4,(c 13).trans ((key 8).trans (tl 0)),(c 14).trans ((key 9).trans (tl 1)),(c 15).trans ((key 10).trans (tl 2)),fun k hk=>(c (5+k)).trans ((key k).trans ?_),fun i=>CQ h.C i⟩;rw[List.getElem?_append_left (by rw[List.length_map,gl];exact hk),List.getElem?_map,List.getElem?_eq_getElem (by rw[gl];exact hk),jJ,List.getElem?_eq_getElem (by rw[gl];exact hk)];rfl
theorem Oj{u:World}{rs:List Rw}{cs:Array Value}(h:Et u B rs)(ht:∀(j:Nat)(r:Rw),rs[j]?=some r->r.t∈GL/\r.t≠85)(hc:u.heap[rb]?=some (.cells cs 85))(i:Nat)(v:Value):Et (u.setCell (Va rb i) v) B rs:=
 h.keep fun j r k hr hk=>Below.heap_setCell u ⟨rb,i,none⟩ v k (fun e=>by
  have e':k=rb:=e;subst e';rcases(h.own j r hr).2 with⟨h',_⟩|⟨g,cap,cur,h',_,hh,_⟩
  ·rw[h']at hk;cases hk
  ·rw[h']at hk
   have:g=k:=Option.some.inj hk;subst this;rw[hc]at hh;exact(ht j r hr).2 (Obj.cells.inj (Option.some.inj hh)).2.1.symm)
theorem Pe{S:PS}{hs:List HS}{rg:List VV}{PL:List (List SV)}{vO vH vR vP:Value}(j:Nat)(r:Rw)(hr:(Df (MB S vO) hs rg PL vH vR vP bv)[j]?=some r):r.t∈GL/\r.t≠85:=by
 have h:=XW (ts:=[40,42,179,38,89]) (fun r hr=>by
  simp only[MB,List.mem_cons,List.not_mem_nil,or_false]at hr;subst hr;exact(by decide:179∈[40,42,179,38,89])) (by decide) (by decide) (by decide) (by decide) j r hr
 have k:∀t∈[40,42,179,38,89],t∈GL/\t≠85:=by decide
 exact k _ h
theorem PR.set{S':PS}{sH' sR' sP' sO':Sl}{bv':List Value}{i:Nat}{v:Value}{cs:Array Value}(hc:w.heap[rb]?=some (.cells cs 85))(hs:cs.setIfInBounds i v=(EA S' sH' sR' sP' sO' sb km).toArray)(hR:Et w B (Df (MB S' (.slice sO'.a sO'.n sO'.c)) S'.hs S'.rg (LZ S') (.slice sH'.a sH'.n sH'.c) (.slice sR'.a sR'.n sR'.c) (.slice sP'.a sP'.n sP'.c) bv'))(hL:bv'.length=S'.ps.length)(hI:Inv S')(hk:PK w B rb sb nb ob mf km):
 PR (w.setCell (Va rb i) v) B S' rb sb nb ob mf km sH' sR' sP' sO' bv'/\Fm GL B w (w.setCell (Va rb i) v):=by
 have f:Fm GL B w (w.setCell (Va rb i) v):=Fm.of_set (a:=Va rb i) hc (by decide) hk.b v;obtain⟨h1,h2,h3,h4,h5,h6,h7⟩:=hk.fm f;refine⟨⟨?_,Oj hR Pe hc i v,hL,hI,h1,h2,h3,h4,h5,h6,h7⟩,f⟩;rw[Bq hc i v,hs]
theorem Xv(S:PS)(sH sR sP sO:Sl)(sb km:Nat)(d:Int):(EA S sH sR sP sO sb km).toArray.setIfInBounds 0 (Vi d)=(EA {S with d:=d} sH sR sP sO sb km).toArray:=by rw[List.setIfInBounds_toArray];rfl
theorem Yg(S:PS)(sH sR sP sO sH':Sl)(hs:List HS)(sb km:Nat):(EA S sH sR sP sO sb km).toArray.setIfInBounds 1 (.slice sH'.a sH'.n sH'.c)=(EA {S with hs:=hs} sH' sR sP sO sb km).toArray:=by rw[List.setIfInBounds_toArray];rfl
theorem YM(S S':PS)(sH sR sP sO sP':Sl)(sb km:Nat)(h1:S'.d=S.d)(h2:S'.st=S.st)(h3:S'.gv=S.gv):(EA S sH sR sP sO sb km).toArray.setIfInBounds 3 (.slice sP'.a sP'.n sP'.c)=(EA S' sH sR sP' sO sb km).toArray:=by rw[List.setIfInBounds_toArray];unfold EA;rw[h1,h2,h3];rfl
theorem Lv(S:PS)(sH sR sP sO:Sl)(sb km:Nat)(k:Nat):(EA S sH sR sP sO sb km).toArray.setIfInBounds 4 (Vi (k:Int))=(EA {S with st:=k} sH sR sP sO sb km).toArray:=by rw[List.setIfInBounds_toArray];rfl
theorem KS(S S':PS)(sH sR sP sO sO':Sl)(sb km:Nat)(hg:S.gv.length=8)(h1:S'.d=S.d)(h2:S'.st=S.st)(h3:S'.gv=S.gv):(EA S sH sR sP sO sb km).toArray.setIfInBounds 13 (.slice sO'.a sO'.n sO'.c)=(EA S' sH sR sP sO' sb km).toArray:=by
 rw[List.setIfInBounds_toArray];unfold EA;rw[h1,h2,h3,List.set_append,if_neg (by simp),List.set_append,if_neg (by simp[hg])];simp[hg]
theorem Xc(S:PS)(sH sR sP sO:Sl)(sb km k:Nat)(hg:S.gv.length=8)(hk:k<8):(EA S sH sR sP sO sb km).toArray.setIfInBounds (5+k) (.bool true)=(EA {S with gv:=S.gv.set k true} sH sR sP sO sb km).toArray:=by
 rw[List.setIfInBounds_toArray];unfold EA;rw[List.set_append,if_neg (by simp),List.set_append,if_pos (by simp[hg];omega)];simp
theorem KR:∀l:List UInt8,∃r,l=fd (Aj l) 0++r/\∀c,r.head?=some c->c=32
 |[]=>⟨[],by simp[fd,Aj]⟩
 |c::l=>by
  by_cases hc:c=32
  ·subst hc
   exact⟨32::l,by rw[Ql];simp[fd]⟩
  ·obtain⟨r,h1,h2⟩:=KR l
   refine⟨r,?_,h2⟩;unfold Aj;rw[if_neg hc];cases h:Aj l with
   |nil=>exact absurd h (GZ l)
   |cons f fs=>
    rw[h]at h1;simpa[fd]using h1
theorem Ia:∀(l f:List UInt8),f∈Aj l->f.length<=l.length
 |[],f,hf=>by
  have:f=[]:=by simpa[Aj]using hf
  subst this;simp
 |c::l,f,hf=>by
  unfold Aj at hf;split at hf
  ·rcases List.mem_cons.1 hf with rfl|hf
   ·simp
   ·have:=Ia l f hf;simp;omega
  ·split at hf
   ·exact absurd ‹_› (GZ l)
   ·rename_i g gs hg
    rcases List.mem_cons.1 hf with rfl|hf
    ·have:=Ia l g (by rw[hg];simp);simp;omega
    ·have:=Ia l f (by rw[hg];simp[hf]);simp;omega
theorem Rz(l:List UInt8)(i:Nat):(fd (Aj l) i).length<=l.length:=by
 unfold fd;rw[jJ];cases h:(Aj l)[i]? with
 |none=>simp
 |some f=>exact Ia l f (List.mem_of_getElem? h)
theorem eu{c:UInt8}(h:DF c=true):c≠32:=fun e=>by subst e;revert h;decide
theorem Rh{x:NV}(h:KE 1 l=some x):x.op=Cg (fd (Aj l) 0)/\1<=x.op/\x.op<=34:=by
 unfold KE at h;split at h
 ·cases h
 ·rename_i h0
  obtain⟨o1,o2,o3⟩:=IL rfl h0;generalize ho:Cg (l.take (pre DF l))=op at h h0 o1 o2 o3;obtain⟨n1,n2,n3⟩:=Mq o1 o2;have hx:x.op=op:=by
   rw[Tk]at h;cases hf:fit (H8 1 (Cz op)) (l.drop (pre DF l)) JB with
   |none=>rw[hf]at h;cases h
   |some y=>rw[hf]at h;cases h;rfl
  have hr:∀c,(l.drop (pre DF l)).head?=some c->c=32:=by
   intro c hc;rw[Zf 1 op o1 o2 (.inr rfl)]at h;cases hl:l.drop (pre DF l)with
   |nil=>rw[hl]at hc;cases hc
   |cons q l'=>
    rw[hl]at hc h;simp only[List.head?_cons,Option.some.injEq]at hc;subst hc;split at h
    ·cases h
    ·rw[ET 32 _ _ _ (by decide)]at h
     simp only at h;split at h
     ·assumption
     ·cases h
  have hw:fd (Aj l) 0=KW op:=by
   have e:=Y3 (KW op) (l.drop (pre DF l)) (fun c hc=>eu (n1 c hc)) hr;rw[<-o3,List.take_append_drop]at e;rw[e,o3]
  rw[hw,n3,hx];exact⟨rfl,o1,o2⟩
theorem Wp(h1:1<=Cg (fd (Aj l) 0)):fit (H8 1 64) l JB=none:=by
 obtain⟨o1,o2,o3⟩:=IL rfl (by omega:Cg (fd (Aj l) 0)≠0);obtain⟨n1,n2,n3⟩:=Mq o1 o2;refine JK (.inr rfl) (fun e=>?_);obtain⟨r,e1,e2⟩:=KR l;rw[o3]at e1;rw[e1]at e;cases hn:KW (Cg (fd (Aj l) 0))with
 |nil=>exact n2 hn
 |cons c t=>
  rw[hn]at e n1;have:c=76:=by simpa[Wx]using e
  have q:=n1 c (by simp);rw[this]at q;revert q;decide
def bT(S:PS)(l:List UInt8):Option PS:=match Da 1 l with|some (_,x)=>(if S.st=3 then some (Dw S ⟨1,x.op,x.d,x.a,x.b,x.imm,x.h,0,0,0,0⟩)else none)|none=>none
theorem Zu(S:PS)(l:List UInt8)(h:1<=Cg (fd (Aj l) 0)/\Cg (fd (Aj l) 0)<=28):bT S l=if S.st=3 then PZ S l else none:=by
 unfold bT Da PZ;rw[Wp h.1];simp only;cases hi:KE 1 l with
 |none=>simp
 |some x=>
  obtain⟨e1,e2,e3⟩:=Rh hi;have hj:Ce x.op=false:=by unfold Ce;simp;omega
  have hc:Hq x=Ar x.op x.d x.a x.b x.imm x.h:=by unfold Hq;rw[hj];rfl
  simp only[hc];by_cases hq:Ar x.op x.d x.a x.b x.imm x.h=true
  ·have hb:Ar x.op x.d x.a x.b x.imm x.h=true/\x.op<29:=⟨hq,by omega⟩
   simp only[if_pos hq,if_pos hb];rfl
  ·have hb:¬(Ar x.op x.d x.a x.b x.imm x.h=true/\x.op<29):=fun q=>hq q.1
   simp only[if_neg hq,if_neg hb];simp
theorem dD(S:PS)(l:List UInt8)(h:¬(1<=Cg (fd (Aj l) 0)/\Cg (fd (Aj l) 0)<=28)):PZ S l=none:=by
 unfold PZ;cases hi:KE 1 l with
 |none=>rfl
 |some x=>
  obtain⟨e1,e2,e3⟩:=Rh hi;simp only;rw[if_neg (fun q=>h (by omega))]
def WC(S:PS)(l:List UInt8)(f:List (List UInt8)):Option PS:=
 if fd f 0=[100,105,97,108,101,99,116]then Ku S f
 else if fd f 0=[104,101,97,112]then FC S f
 else if fd f 0=[114,101,103]then JQ S f
 else if fd f 0=[112,114,111,99]then Gj S f
 else if fd f 0=[105,102]then(if S.st=3 then Ez S 2 f else none)
 else if fd f 0=[119,104,105,108,101]then(if S.st=3 then Ez S 3 f else none)
 else if fd f 0=[101,108,115,101]then JV S f
 else if fd f 0=[101,110,100]then JG S f
 else if fd f 0=[99,97,108,108]then(if S.st=3 then NF S f else none)
 else if 1<=Cg (fd f 0)/\Cg (fd f 0)<=28 then bT S l else none
theorem aM{S:PS}(h:Inv S)(l:List UInt8):WC S l (Aj l)=Eb S l:=by
 have hi:=Zu S l;have hn:=dD S l;unfold WC Eb Vg;generalize Aj l=f at hi hn⊢;by_cases h3:S.st=3
 ·simp only[if_pos h3]
  by_cases ho:1<=Cg (fd f 0)/\Cg (fd f 0)<=28
  ·rw[if_pos ho,hi ho,if_pos h3]
  ·rw[if_neg ho,hn ho]
 ·have e1:JV S f=none:=by unfold JV;rw[h.op h3]
  have e2:JG S f=none:=by unfold JG;rw[h.op h3]
  simp only[if_neg h3,e1,e2];by_cases ho:1<=Cg (fd f 0)/\Cg (fd f 0)<=28
  ·rw[if_pos ho,hi ho,if_neg h3]
   simp
  ·rw[if_neg ho]
   simp
theorem OE:∀l:List UInt8,(Aj l).length=l.count 32+1
 |[]=>rfl
 |c::l=>by
  have ih:=OE l;by_cases hc:c=32
  ·subst hc
   rw[Ql];simp[ih]
  ·unfold Aj
   rw[if_neg hc,List.count_cons_of_ne hc];cases h:Aj l with
   |nil=>exact absurd h (GZ l)
   |cons f fs=>rw[h]at ih;simpa using ih
theorem OZ:∀(k:Nat)(l:List UInt8),l.count 32<=k->Lib.splitK [32] 0 k l=Aj l
 |0,l,h=>by
  have:∀c∈l,c≠32:=fun c hc e=>by subst e;have:=List.count_pos_iff.2 hc;omega
  rw[Qv l this];rfl
 |k+1,l,h=>by
  unfold Lib.splitK;rw[Lib.index_one];obtain⟨r,e1,e2⟩:=KR l;have nw:∀c∈fd (Aj l) 0,c≠32:=fun c hc=>(La l _ (by cases hf:Aj l with|nil=>exact absurd hf (GZ l)|cons f fs=>simp[fd]) c hc).1
  generalize hw:fd (Aj l) 0=w at e1 nw;subst e1;clear hw;cases r with
  |nil=>
   rw[List.append_nil,Qv w nw];have:Lib.indexByte w 32= -1:=by
    clear h;induction w with
    |nil=>rfl
    |cons c w ih=>unfold Lib.indexByte;simp[nw c (by simp),ih (fun c hc=>nw c (by simp[hc]))]
   rw[this];rfl
  |cons c r=>
   have hc:c=32:=e2 c rfl;subst hc;have:Lib.indexByte (w++32::r) 32=w.length:=by
    clear h;induction w with
    |nil=>unfold Lib.indexByte;simp
    |cons c w ih=>
     have i:=ih (fun c hc=>nw c (by simp[hc]));show Lib.indexByte (c::(w++32::r)) 32=_;unfold Lib.indexByte;rw[i];simp[nw c (by simp)]
   rw[this,LF w _ nw,Ql];have hh:((w.length:Int)== -1)=false:=by rw[beq_eq_false_iff_ne];omega
   rw[hh];simp only[Bool.false_eq_true,if_false,Int.toNat_natCast,Nat.add_zero,List.length_singleton];rw[OZ k ((w++32::r).drop (w.length+1)) (by
    rw[List.count_append,List.count_cons_self]at h;have:(w++32::r).drop (w.length+1)=r:=by rw[List.drop_append];simp
    rw[this];omega)]
   simp
end Go.Proofs.YtfpeecaaleijcaaGreatDoor
