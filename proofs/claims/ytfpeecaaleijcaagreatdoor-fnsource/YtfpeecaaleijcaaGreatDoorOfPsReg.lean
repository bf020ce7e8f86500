import Derived.Test.YtfpeecaaleijcaaGreatDoorOfCl
import Derived.Test.YtfpeecaaleijcaaGreatDoorOfPsSpecB
import Derived.Test.YtfpeecaaleijcaaGreatDoorOfPsLay
import Derived.Test.YtfpeecaaleijcaaGreatDoorOfAsmNew
import Derived.Deep.DeepCutAuto
import Derived.Lib.BufferKept
set_option maxHeartbeats 16000000
set_option maxRecDepth 20000
namespace Go.Proofs.YtfpeecaaleijcaaGreatDoor
open Go.RowKit
variable {pb:Nat}{u v w:World}
structure PW(pb sb:Nat)(v:Value)(t:List UInt8)(u:World):Prop where
 C:u.cell? (Va pb 0)=some v
 D:u.cell? (Va pb 1)=some (Vq sb)
 lt:pb<u.heap.size
 F:∀i,u.frozen? (Va pb i)=false
 O:u.ownsRow (pb+1) 5 1 v t.length (Lib.byteCells t)
structure PF(pb:Nat)(u u':World):Prop where
 b:Below pb u u'
 k:Lib.OthersKept 5 (some pb) u u'
theorem PF.refl(pb:Nat)(u:World):PF pb u u:=⟨Below.refl _ _,Lib.OthersKept.refl _ _ _⟩
theorem PF.trans(h:PF pb u v)(g:PF pb v w):PF pb u w:=⟨h.b.trans g.b,h.k.trans g.k⟩
theorem PF.of_below(h:Below u.heap.size u v)(hp:pb<=u.heap.size):PF pb u v:=⟨h.mono hp,FO h⟩
theorem PW.below{sb:Nat}{v:Value}{t:List UInt8}{u':World}(h:PW pb sb v t u)(b:Below u.heap.size u u'):PW pb sb v t u':=
 ⟨(b.cell (p:=Va pb 0) h.lt).trans h.C,(b.cell (p:=Va pb 1) h.lt).trans h.D,jI h.lt b.size,fun i=>(b.frozen (p:=Va pb i) h.lt).trans (h.F i),Gb h.O b⟩
theorem PF.cl(h:PF pb u v){b:Nat}{cs:Array Value}{t:TypeId}(hc:u.heap[b]?=some (.cells cs t))(hb:b≠pb)(ht:t≠5):v.heap[b]?=some (.cells cs t):=
 h.k b _ hc (fun e=>hb (Option.some.inj e)) (fun _ _ e=>ht (Obj.cells.inj e).2.1)
theorem EX(w:World)(o:Obj):(w.alloc o).heap[w.heap.size]?=some o:=Ai w o
theorem Xn:∃i,Tryz.prog.info? 5=some i/\i.zero=some (.int .u8 0)/\i.size=1/\i.bytes=1:=by
 have:=Pq;rcases hh:Tryz.prog.info? 5 with _|i
 ·rw[hh]at this;simp at this
 ·rw[hh]at this;simp at this;exact⟨i,rfl,this⟩
theorem Me{P:Program}{md:Region.Mode}{ops:Array Oper}{Q:Exit->Act->World->Prop}{T:World->Prop}{s' fuel i:Nat}{listed:Array Bool}{a:Act}{w':World}{o:Oper}(s x:Operand){ts:Array TypeId}{v u v':Value}(ho:ops[i]?=some o)(hr:Region.ready md ops listed=[i])(hw:Region.wanted o (yielded ops a.tmps)=true)
 (hop:o.op=.call {callee:=.builtin .append,args:=#[s,x],argTypes:=ts})(hs:a.eval s=v)(hx:a.eval x=u)(hrun:(Builtin.append_ ts o.type #[v,u]).run P w=.ok v' w')(hT:T w')(h:T w'->wpAnyL P md ops Q T s' fuel (listed.setIfInBounds i true) (a.put o.dst v') w'):wpAnyL P md ops Q T s' (fuel+1) listed a w:=
 Aq ho hr (fun K' hK=>by
  rw[if_pos hw];unfold Oper.wp execOp;simp only[hop,resolve,invoke,builtin,Sem.run_bind,Sem.run_pure,Result.andThen_ok,List.map_toArray,List.map_cons,List.map_nil,hs,hx,hrun];exact hK _ _ hT h)
def Ir(xs:List ByteArray):List UInt8:=Lib.join (xs.map (·.data.toList)) [32]++[10]
theorem PW.grown{sb:Nat}{v v':Value}{t x:List UInt8}{u5:World}{n:Nat}(h:PW pb sb v t u)(hg:u.grownBy u5 v.ownBlock)(ho:u5.ownsRow (pb+1) 5 1 v' n (Lib.byteCells (t++x))):PW pb sb v' (t++x) (u5.setCell (Va pb 0) v')/\PF pb u (u5.setCell (Va pb 0) v')/\u5.cell? (Va pb 0)=some v/\u5.frozen? (Va pb 0)=false:=by
 have NL:v.ownBlock≠some pb:=fun e=>by have:=(h.O.lt _ e).1;omega
 have bl:=hg.block pb h.lt (fun e=>NL e.symm);have hc:∀i,u5.cell? (Va pb i)=u.cell? (Va pb i):=fun i=>World.cell?_of_block (a:=Va pb i) bl
 have hf:∀i,u5.frozen? (Va pb i)=u.frozen? (Va pb i):=fun i=>World.frozen?_of_block (a:=Va pb i) bl
 have hn:n=(t++x).length:=by have:=ho.1;rw[Lib.byteCells_length]at this;omega
 subst hn;refine⟨⟨by simp[go_sem,hc,h.C],by simp[go_sem,hc,h.D],by simpa using jI h.lt hg.size,fun i=>by simpa using(hf i).trans (h.F i),ownsRow_setCell_below ho (by show pb<_;omega) _⟩,⟨?_,?_⟩,(hc 0).trans h.C,(hf 0).trans (h.F 0)⟩
 ·have q:=(Below.refl pb u).grown hg (Nat.le_of_lt h.lt) (fun k hk=>by have:=(h.O.lt k hk).1;omega)
  exact⟨q.os,q.tape,q.output,by simpa using q.size,fun k hk=>(Below.heap_setCell u5 ⟨pb,0,none⟩ v' k (by show k≠pb;omega)).trans (q.block k hk)⟩
 ·exact(Hf (b:=some pb) h.O hg (Lib.OthersKept.refl _ _ _)).setCell (Va pb 0) rfl v'
theorem Em(pb sb:Nat)(v:Value)(t:List UInt8)(bk c:Nat)(xs:List ByteArray)(w:World)(h:PW pb sb v t w)(hc:∀(j:Nat)x,xs[j]?=some x->w.cell? (Va bk j)=some (.string x))(hbk:bk<w.heap.size)(hN:xs.length<=100)(hcap:xs.length<=c)(hl:(Ir xs).length<=1000000)(ht:t.length<=100000000):
 Calls Tryz.prog 18 #[Vq pb,Vs bk xs.length c] w fun e w'=>e=.returned (.tuple #[])/\∃v',PW pb sb v' (t++Ir xs) w'/\PF pb w w':=by
 obtain⟨ao,kl,cl,hv⟩:=Cw h.O;subst hv;have H:=hxy h;have lt:=h.lt;have HC:=hxy hc;obtain⟨iS,i1,i2,i3,i4⟩:=Xn;have HI:Hid (_/\_/\_/\_):=⟨i1,i2,i3,i4⟩
 obtain⟨js,hjs⟩:=Ae ((⟨(Lib.join (xs.map (·.data.toList)) [32]).toArray⟩:ByteArray));have HJS:Hid (js.data.toList=Lib.join (xs.map (·.data.toList)) [32]):=(by rw[<-hjs]:js.data.toList=Lib.join (xs.map (·.data.toList)) [32])
 have jz:js.size<=1000000:=by
  have h1:js.size=js.data.toList.length:=rfl;unfold Ir at hl;rw[List.length_append,<-HJS.out]at hl;omega
 have HLT:Hid (t++js.data.toList++[10]=t++Ir xs):=(by unfold Ir;rw[HJS.out,List.append_assoc]:t++js.data.toList++[10]=t++Ir xs)
 have HTL:=hxy ht;have HJ2:=hxy hjs;clear h hc i1 i2 i3 i4 hl ht hjs;go_enter Tryz.func18,Tryz.ntmps18;go_upto_region 0 with fail;have r0:∀w':World,w'.cell? (Va pb 0)=some (.slice ao kl cl)->w'.cell? (Va pb 0)=some (.slice ao kl cl):=fun w' h=>h
 have TD:=H.out.C;have bd:Below w.heap.size w w.drew:=(Below.refl _ _).drew;refine BF (T:=fun w'=>w'.cell? (Va pb 0)=some (.slice ao kl cl)) (s:=10) (by kernel_rfl) TD (fun hHeld=>?_);generalize w.drew=t0 at hHeld bd⊢;have BD:=hxy bd;clear TD bd;refine AJ 0 rfl ?_;refine AJ 1 rfl ?_;refine AJ 2 rfl ?_;refine AJ 3 rfl ?_;refine AJ 4 rfl ?_;refine AJ 5 rfl ?_;refine Aq (i:=6) rfl (by kernel_rfl) (fun KK hK=>?_);go_simp;refine(Gh bk 0 c xs ⟨#[32]⟩ t0 (fun j x hj=>by rw[Nat.zero_add];exact(BD.out.cell (p:=Va bk j) hbk).trans (HC.out j x hj)) (jI hbk BD.out.size) (by omega) hcap (by have h1:js.size=js.data.toList.length:=rfl;rw[HJS.out]at h1;show(Lib.join (xs.map (·.data.toList)) [32]).length<=_;omega)).mono ?_;rintro e t1⟨rfl,hb1⟩;have B1:=hxy (BD.out.trans (hb1.mono BD.out.size));have P1:=hxy (H.out.below B1.out);show KK _ _;rw[show(⟨(Lib.join (xs.map (·.data.toList)) (⟨#[32]⟩:ByteArray).data.toList).toArray⟩:ByteArray)=js from HJ2.out];refine hK.out _ _ P1.out.C (fun hHeld1=>?_);clear hK KK hb1 BD;try simp only[Act.put,BP,BN,BK,BQ,BS,BM]
 obtain⟨v1,w5,hrun,hown,hgrow,_⟩:=Lib.run_append_own_string (P:=Tryz.prog) t1 (pb+1) 22 9 22 5 iS Tryz.underlying22 Tryz.underlying9 HI.out.1 HI.out.2.1 HI.out.2.2.1 HI.out.2.2.2 (.slice ao kl cl) t.length (Lib.byteCells t) P1.out.O js (by have:=HTL.out;unfold maxLen;omega) (by have:=HTL.out;omega) P1.out.lt;rw[ZL,JW]at hown;obtain⟨n1,n2,n3,n4⟩:=P1.out.grown hgrow hown;obtain⟨ao5,k5,c5,hv5⟩:=Cw hown;subst hv5;have N1:=hxy n1;have F1:=hxy ((PF.of_below B1.out (Nat.le_of_lt lt)).trans n2);refine Me (.tmp 8) (.tmp 10) (i:=7) rfl (by kernel_rfl) (by kernel_rfl) rfl rfl rfl hrun n3 (fun hHeld5=>?_);try simp only[Act.put,BP,BN,BK,BQ,BS,BM]
 refine C9 8 rfl ?_;refine AJ 9 rfl ?_;clear n1 n2 hown hgrow hrun hHeld hHeld1 hHeld5 r0 P1 B1;refine A7 rfl (by kernel_rfl) (by kernel_rfl) (fun KK hK=>?_);go_simp;refine hK.out _ _ ?_;clear hK KK n3 n4
 generalize w5.setCell (Va pb 0) (.slice ao5 k5 c5)=u at N1 F1⊢
 have q0:=N1.out.C
 have lu:=N1.out.lt
 have OA:Hid ((u.alloc (.cells #[.int .u8 10] 5)).ownsRow (pb+1) 5 1 (.slice ao5 k5 c5) (t++js.data.toList).length (Lib.byteCells (t++js.data.toList))):=(N1.out.below Ak).O
 have hcl:=cell_one_new u (.int .u8 10) 5
 have HCL:=hxy hcl
 have hBa:pb+1<=(u.alloc (.cells #[.int .u8 10] 5)).heap.size:=by simp;omega
 have HLN:Hid ((t++js.data.toList).length<=200000000):=(by have h1:js.size=js.data.toList.length:=rfl;have:=HTL.out;rw[List.length_append];omega:(t++js.data.toList).length<=200000000)
 clear hcl
 go_wp2_with(first|(at_builtin;refine wpList_append_own_at _ rfl _ _ 22 rfl (pb+1) 5 iS _ 1 1 Tryz.underlying22 HI.out.1 HI.out.2.1 HI.out.2.2.1 HI.out.2.2.2 rfl (by decide) (.slice ao5 k5 c5) (t++js.data.toList).length _ rfl OA.out ⟨u.heap.size,0,none⟩ 1 1 [.int .u8 10] rfl rfl HCL.out ?c2 ?c3 ?c4 hBa ?_))
 case c2=>simp[Value.oneCell']
 case c3=>have:=HLN.out;unfold maxLen;omega
 case c4=>have:=HLN.out;omega
 intro v' w4 hown4 hgrow _ _
 have PA:Hid (PW pb sb (.slice ao5 k5 c5) (t++js.data.toList) (u.alloc (.cells #[.int .u8 10] 5))):=N1.out.below Ak
 rw[show[Value.int .u8 10]=Lib.byteCells [10]from rfl,JW]at hown4
 obtain⟨n1,n2,n3,n4⟩:=PA.out.grown hgrow hown4
 obtain⟨ao6,k6,c6,hv6⟩:=Cw hown4
 subst hv6
 have N2:Hid (PW pb sb (.slice ao6 k6 c6) (t++Ir xs) (w4.setCell (Va pb 0) (.slice ao6 k6 c6))):=(by rw[HLT.out]at n1;exact n1:PW pb sb (.slice ao6 k6 c6) (t++Ir xs) (w4.setCell (Va pb 0) (.slice ao6 k6 c6)))
 have F2:=hxy ((F1.out.trans (PF.of_below Ak (Nat.le_of_lt lu))).trans n2)
 clear n1 n2 hown4 hgrow
 go_wp2
 go_end0
 exact⟨rfl,_,N2.out,F2.out⟩
theorem JO(s:ByteArray)(l:List (List UInt8))(k:Nat)(w:World)(hs:s.size<1000)(ha:(s.data.toList.all fun b=>decide (b.toNat<128))=true)(hf:Lib.fields s.data.toList=l)(hk:k<l.length)(_hl:l.length<=100)(ht:Lib.TabIs Tryz.prog w "strings.asciiSpace" .u8 Lib.asciiSpaceTab):
 Calls Tryz.prog 19 #[.string s,Vi (k:Int)] w fun e w'=>e=.returned (.string (bs (l.getD k [])))/\Below w.heap.size w w':=by
 have HT:=hxy ht;have HA:Hid (∀(j:Nat)b,s.data.toList[j]?=some b->b.toNat<128):=(fun j b h=>by have:=List.all_eq_true.1 ha b (List.mem_of_getElem? h);simpa using this:∀(j:Nat)b,s.data.toList[j]?=some b->b.toNat<128)
 have HF:=hxy hf;obtain⟨x,hx⟩:=Ae (bs (l.getD k []));rw[hx];have HX:=hxy hx;clear ht ha hf hx;go_enter Tryz.func19,Tryz.ntmps19;go_wp2_with fail;refine(EQ s w (by omega) HA.out HT.out).mono ?_;rintro e w1⟨rfl,hw1⟩;rw[HF.out]at hw1⊢;have hk':(k:Int)<(l.length:Int):=by omega
 have c1:w1.cell? ⟨w.heap.size,k,none⟩=some (.string x):=by
  rw[hw1,Ab (EX w _) k,<-HX.out];simp[bs,hk]
 have hb:Below w.heap.size w w1:=by rw[hw1];exact Ak
 clear hw1;go_wp2_with fail;go_ret;exact⟨rfl,hb⟩
theorem Ow(c:Int)(w:World)(h1:1<=c)(h2:c<=4)(ht:Lib.TabIs Tryz.prog w "strings.asciiSpace" .u8 Lib.asciiSpaceTab):
 Calls Tryz.prog 19 #[.string ⟨#[122,32,110,122,32,99,32,110,99]⟩,Vi (c-1)] w fun e w'=>e=.returned (.string (bs (EP c)))/\Below w.heap.size w w':=by
 have h:=fun k hk=>JO ⟨#[122,32,110,122,32,99,32,110,99]⟩ [[122],[110,122],[99],[110,99]] k w (by decide) (by decide) (by kernel_rfl) hk (by decide) ht
 obtain rfl|rfl|rfl|rfl:c=1∨c=2∨c=3∨c=4:=by omega
 ·exact h 0 (by decide)
 ·exact h 1 (by decide)
 ·exact h 2 (by decide)
 ·exact h 3 (by decide)
theorem Wm(d:Int)(w:World)(h:d=0∨d=1)(ht:Lib.TabIs Tryz.prog w "strings.asciiSpace" .u8 Lib.asciiSpaceTab):
 Calls Tryz.prog 19 #[.string ⟨#[103,97,115,32,109,97,115,109]⟩,Vi d] w fun e w'=>e=.returned (.string (bs (if d=1 then[109,97,115,109]else[103,97,115])))/\Below w.heap.size w w':=by
 have h':=fun k hk=>JO ⟨#[103,97,115,32,109,97,115,109]⟩ [[103,97,115],[109,97,115,109]] k w (by decide) (by decide) (by kernel_rfl) hk (by decide) ht
 rcases h with rfl|rfl
 ·exact h' 0 (by decide)
 ·exact h' 1 (by decide)
theorem Mv(s:ByteArray)(l:List (List UInt8))(b:Bool)(w:World)(hs:s.size<1000)(ha:(s.data.toList.all fun b=>decide (b.toNat<128))=true)(hf:Lib.fields s.data.toList=l)(hl:l.length=2)(ht:Lib.TabIs Tryz.prog w "strings.asciiSpace" .u8 Lib.asciiSpaceTab):
 Calls Tryz.prog 21 #[.string s,.bool b] w fun e w'=>e=.returned (.string (bs (l.getD (if b=true then 1 else 0) [])))/\Below w.heap.size w w':=by
 have HH:Hid (∀k,k<l.length->Calls Tryz.prog 19 #[.string s,Vi (k:Int)] w fun e w'=>e=.returned (.string (bs (l.getD k [])))/\Below w.heap.size w w'):=fun k hk=>JO s l k w hs ha hf hk (by omega) ht
 clear ht ha hf;cases b;all_goals
  go_enter Tryz.func21,Tryz.ntmps21;go_wp2_with fail
 ·refine(HH.out 0 (by omega)).mono ?_
  rintro e w1⟨rfl,hb⟩;go_wp2_with fail;go_ret;exact⟨rfl,hb⟩
 ·refine(HH.out 1 (by omega)).mono ?_
  rintro e w1⟨rfl,hb⟩;go_wp2_with fail;go_ret;exact⟨rfl,hb⟩
theorem JN(b:Bool)(w:World)(ht:Lib.TabIs Tryz.prog w "strings.asciiSpace" .u8 Lib.asciiSpaceTab):
 Calls Tryz.prog 21 #[.string ⟨#[112,117,98,108,105,99,32,115,101,99,114,101,116]⟩,.bool b] w fun e w'=>e=.returned (.string (bs (CP b)))/\Below w.heap.size w w':=by
 have h:=Mv ⟨#[112,117,98,108,105,99,32,115,101,99,114,101,116]⟩ [[112,117,98,108,105,99],[115,101,99,114,101,116]] b w (by decide) (by decide) (by kernel_rfl) rfl ht;cases b<;>exact h
theorem Vm(b:Bool)(w:World)(ht:Lib.TabIs Tryz.prog w "strings.asciiSpace" .u8 Lib.asciiSpaceTab):
 Calls Tryz.prog 21 #[.string ⟨#[114,101,97,100,32,119,114,105,116,101]⟩,.bool b] w fun e w'=>e=.returned (.string (bs (if b=true then[119,114,105,116,101]else[114,101,97,100])))/\Below w.heap.size w w':=by
 have h:=Mv ⟨#[114,101,97,100,32,119,114,105,116,101]⟩ [[114,101,97,100],[119,114,105,116,101]] b w (by decide) (by decide) (by kernel_rfl) rfl ht;cases b<;>exact h
theorem Cj(x:Int)(h:x.natAbs<10000000000000000)(w:World)(ht:Lib.TabIs Tryz.prog w "internal/strconv.uint64pow10" .u64 Lib.pow10Tab):
 Calls Tryz.prog 20 #[Vi x] w fun e w'=>e=.returned (.string (bs (Lib.itoa x)))/\Below w.heap.size w w':=by
 have HT:=hxy ht;clear ht;go_enter Tryz.func20,Tryz.ntmps20;go_wp2_with fail;refine(Ij x (by omega) (by omega) w HT.out).mono ?_;rintro e w1⟨rfl,k,os,hw1⟩;have hb:Below w.heap.size w w1:=by rw[hw1];exact Lib.below_grow _ _ jG _ _
 clear hw1;go_wp2_with fail;go_ret;exact⟨rfl,hb⟩
theorem FL(w:World)(xs:List ByteArray):∀(j:Nat)x,xs[j]?=some x->(w.alloc (.cells (xs.map Value.string).toArray 9)).cell? ⟨w.heap.size,j,none⟩=some (.string x):=fun j x hx=>by
 rw[Ab (EX w _) j];simp[hx]
theorem Z8(l:List UInt8):(bs l).data.toList=l:=Zh l
theorem Ny(a:List UInt8):Ir [bs a]=a++[10]:=by simp[Ir,Lib.join,List.intercalate,Z8]
theorem Wh(a b:List UInt8):Ir [bs a,bs b]=a++[32]++b++[10]:=by simp[Ir,Lib.join,List.intercalate,Z8]
theorem dG(a b c d:List UInt8):Ir [bs a,bs b,bs c,bs d]=a++[32]++b++[32]++c++[32]++d++[10]:=by simp[Ir,Lib.join,List.intercalate,Z8]
theorem iD(a b c d e f:List UInt8):Ir [bs a,bs b,bs c,bs d,bs e,bs f]=a++[32]++b++[32]++c++[32]++d++[32]++e++[32]++f++[10]:=by simp[Ir,Lib.join,List.intercalate,Z8]
structure TB(pb:Nat)(w:World):Prop where
 p:Lib.TabBelow Tryz.prog pb w "internal/strconv.uint64pow10" .u64 Lib.pow10Tab
 a:Lib.TabBelow Tryz.prog pb w "strings.asciiSpace" .u8 Lib.asciiSpaceTab
theorem TB.on(h:TB pb w)(b:Below pb w u):TB pb u:=⟨h.p.on b,h.a.on b⟩
theorem UH(pb sb:Nat)(v:Value)(t:List UInt8)(k:Nat)(x:VV)(w:World)(h:PW pb sb v t w)(tb:TB pb w)(hk:k<8){n:Nat}(hn:n<=8)(hg:CO x (n:Int)=true)(ht:t.length<=50000000):
 Calls Tryz.prog 22 #[Vq pb,Vi (k:Int),.agg #[Vi x.k,.bool x.s,Vi x.m,Vi x.h,Vi x.lo,Vi x.hi]] w fun e w'=>e=.returned (.tuple #[])/\∃v',PW pb sb v' (t++Db k x) w'/\PF pb w w':=by
 obtain⟨m1,m2,m3,m4⟩:=I7 hn hg;have hrl:=Rm k hk x hn hg;have H:=hxy h;have TBH:=hxy tb;have lt:=h.lt;clear h tb hg hn;go_enter Tryz.func22,Tryz.ntmps22;go_upto_region 2 with fail;obtain⟨u,hu,hbu,hcu⟩:∃y,w.alloc (.cells #[Vi x.k,.bool x.s,Vi x.m,Vi x.h,Vi x.lo,Vi x.hi] 42)=y/\Below w.heap.size w y/\y.heap[w.heap.size]?=some (.cells #[Vi x.k,.bool x.s,Vi x.m,Vi x.h,Vi x.lo,Vi x.hi] 42):=⟨_,rfl,Ak,EX _ _⟩
 rw[hu];obtain⟨xb,hxb⟩:=Ae w.heap.size;rw[hxb]at hcu⊢;have BU:=hxy hbu;have lx:pb<xb:=by omega
 have XU:u.heap[xb]?=some (.cells #[Vi x.k,.bool x.s,Vi x.m,Vi x.h,Vi x.lo,Vi x.hi] 42):=hcu;have c0:=Ab hcu 0;have c2:=Ab hcu 2;clear hu hbu hcu hxb;by_cases hk1:x.k=1
 ·have e1:(x.k==1)=true:=by simp[hk1]
  have hkk:=hxy hk1;clear hk1;go_upto_region 3 with fail;have r0:∀w':World,w'.heap[xb]?=some (.cells #[Vi x.k,.bool x.s,Vi x.m,Vi x.h,Vi x.lo,Vi x.hi] 42)->w'.cell? (Va xb 0)=some (Vi x.k):=fun w' h=>Ab h 0
  have r1:∀w':World,w'.heap[xb]?=some (.cells #[Vi x.k,.bool x.s,Vi x.m,Vi x.h,Vi x.lo,Vi x.hi] 42)->w'.cell? (Va xb 1)=some (.bool x.s):=fun w' h=>Ab h 1
  have r2:∀w':World,w'.heap[xb]?=some (.cells #[Vi x.k,.bool x.s,Vi x.m,Vi x.h,Vi x.lo,Vi x.hi] 42)->w'.cell? (Va xb 2)=some (Vi x.m):=fun w' h=>Ab h 2
  have r3:∀w':World,w'.heap[xb]?=some (.cells #[Vi x.k,.bool x.s,Vi x.m,Vi x.h,Vi x.lo,Vi x.hi] 42)->w'.cell? (Va xb 3)=some (Vi x.h):=fun w' h=>Ab h 3
  have r4:∀w':World,w'.heap[xb]?=some (.cells #[Vi x.k,.bool x.s,Vi x.m,Vi x.h,Vi x.lo,Vi x.hi] 42)->w'.cell? (Va xb 4)=some (Vi x.lo):=fun w' h=>Ab h 4
  have r5:∀w':World,w'.heap[xb]?=some (.cells #[Vi x.k,.bool x.s,Vi x.m,Vi x.h,Vi x.lo,Vi x.hi] 42)->w'.cell? (Va xb 5)=some (Vi x.hi):=fun w' h=>Ab h 5
  have HLN:Hid (Ir [bs [114,101,103],bs (Lib.itoa (k:Int)),bs [112,116,114],bs (Lib.itoa x.h),bs (Lib.itoa x.lo),bs (Lib.itoa x.hi)]=Db k x):=(by
   rw[iD];unfold Db;rw[if_pos hkk.out];simp only[List.append_assoc,List.cons_append,List.nil_append]:Ir [bs [114,101,103],bs (Lib.itoa (k:Int)),bs [112,116,114],bs (Lib.itoa x.h),bs (Lib.itoa x.lo),bs (Lib.itoa x.hi)]=Db k x)
  clear c0 c2;refine wp_region_held_drew (S:=fun w'=>w'.heap[xb]?=some (.cells #[Vi x.k,.bool x.s,Vi x.m,Vi x.h,Vi x.lo,Vi x.hi] 42)) (by kernel_rfl) XU (fun _=>?_);refine AB 0 rfl ?_;refine AB 1 rfl ?_;refine AB 3 rfl ?_;refine AB 4 rfl ?_;refine AB 6 rfl ?_;refine AB 7 rfl ?_;refine AB 9 rfl ?_;refine AB 10 rfl ?_;obtain⟨v0,hv0,hbd,XV⟩:∃y,u.drew=y/\Below u.heap.size u y/\y.heap[xb]?=some (.cells #[Vi x.k,.bool x.s,Vi x.m,Vi x.h,Vi x.lo,Vi x.hi] 42):=⟨_,rfl,(Below.refl _ _).drew,XU⟩
  rw[hv0];have B0:=hxy (BU.out.trans (hbd.mono BU.out.size));have X0:=hxy XV;clear hv0 hbd XV;refine AO 2 rfl (fun KK hK=>?_);go_simp;refine(Cj (k:Int) (by omega) _ (TBH.out.p _ (B0.out.mono (Nat.le_of_lt lt)))).mono ?_;rintro e v1⟨rfl,hb⟩;have B1:=hxy (B0.out.trans (hb.mono B0.out.size));have X1:Hid (v1.heap[xb]?=some (.cells #[Vi x.k,.bool x.s,Vi x.m,Vi x.h,Vi x.lo,Vi x.hi] 42)):=(hb.block xb (jH.1 X0.out).1).trans X0.out;refine hK.out _ _ X1.out (fun _=>?_);clear hK KK hb;try simp only[Act.put,BP,BN,BK,BQ,BS,BM]
  refine AO 5 rfl (fun KK hK=>?_);go_simp;refine(Cj x.h (by omega) _ (TBH.out.p _ (B1.out.mono (Nat.le_of_lt lt)))).mono ?_;rintro e v2⟨rfl,hb⟩;have B2:=hxy (B1.out.trans (hb.mono B1.out.size));have X2:Hid (v2.heap[xb]?=some (.cells #[Vi x.k,.bool x.s,Vi x.m,Vi x.h,Vi x.lo,Vi x.hi] 42)):=(hb.block xb (jH.1 X1.out).1).trans X1.out;refine hK.out _ _ X2.out (fun _=>?_);clear hK KK hb;try simp only[Act.put,BP,BN,BK,BQ,BS,BM]
  refine AO 8 rfl (fun KK hK=>?_)
  go_simp
  refine(Cj x.lo (by omega) _ (TBH.out.p _ (B2.out.mono (Nat.le_of_lt lt)))).mono ?_
  rintro e v3⟨rfl,hb⟩
  have B3:=hxy (B2.out.trans (hb.mono B2.out.size))
  have X3:Hid (v3.heap[xb]?=some (.cells #[Vi x.k,.bool x.s,Vi x.m,Vi x.h,Vi x.lo,Vi x.hi] 42)):=(hb.block xb (jH.1 X2.out).1).trans X2.out
  refine hK.out _ _ X3.out (fun _=>?_)
  clear hK KK hb
  try simp only[Act.put,BP,BN,BK,BQ,BS,BM]
  refine AO 11 rfl (fun KK hK=>?_)
  go_simp
  refine(Cj x.hi (by omega) _ (TBH.out.p _ (B3.out.mono (Nat.le_of_lt lt)))).mono ?_
  rintro e v4⟨rfl,hb⟩
  have B4:=hxy (B3.out.trans (hb.mono B3.out.size))
  have X4:Hid (v4.heap[xb]?=some (.cells #[Vi x.k,.bool x.s,Vi x.m,Vi x.h,Vi x.lo,Vi x.hi] 42)):=(hb.block xb (jH.1 X3.out).1).trans X3.out
  refine hK.out _ _ X4.out (fun _=>?_)
  clear hK KK hb
  try simp only[Act.put,BP,BN,BK,BQ,BS,BM]
  refine AO 12 rfl (fun KK hK=>?_)
  go_simp
  obtain⟨v9,hv9,hb9,hf9⟩:∃y,v4.alloc (.cells ([bs [114,101,103],bs (Lib.itoa (k:Int)),bs [112,116,114],bs (Lib.itoa x.h),bs (Lib.itoa x.lo),bs (Lib.itoa x.hi)].map Value.string).toArray 9)=y/\Below v4.heap.size v4 y/\(∀(j:Nat)q,[bs [114,101,103],bs (Lib.itoa (k:Int)),bs [112,116,114],bs (Lib.itoa x.h),bs (Lib.itoa x.lo),bs (Lib.itoa x.hi)][j]?=some q->y.cell? ⟨v4.heap.size,j,none⟩=some (.string q)):=⟨_,rfl,Ak,FL _ _⟩
  have zb:v4.heap.size<v9.heap.size:=by rw[<-hv9];simp
  show KK _ (v4.alloc (.cells ([bs [114,101,103],bs (Lib.itoa (k:Int)),bs [112,116,114],bs (Lib.itoa x.h),bs (Lib.itoa x.lo),bs (Lib.itoa x.hi)].map Value.string).toArray 9))
  rw[hv9]
  have X9:Hid (v9.heap[xb]?=some (.cells #[Vi x.k,.bool x.s,Vi x.m,Vi x.h,Vi x.lo,Vi x.hi] 42)):=(hb9.block xb (jH.1 X4.out).1).trans X4.out
  have B9:=hxy (B4.out.trans (hb9.mono B4.out.size))
  have F9:Hid _:=hf9
  refine hK.out _ _ X9.out (fun _=>?_)
  clear hK KK hb9 hf9 hv9
  try simp only[Act.put,BP,BN,BK,BQ,BS,BM]
  refine AO 13 rfl (fun KK hK=>?_)
  go_simp
  refine(Em pb sb v t v4.heap.size 6 [bs [114,101,103],bs (Lib.itoa (k:Int)),bs [112,116,114],bs (Lib.itoa x.h),bs (Lib.itoa x.lo),bs (Lib.itoa x.hi)] v9 (H.out.below B9.out) F9.out zb (by simp) (by simp) (by rw[HLN.out];omega) (by omega)).mono ?_
  rintro e w9⟨rfl,v',n1,n2⟩
  rw[HLN.out]at n1
  have N1:=hxy n1
  have N2:=hxy ((PF.of_below B9.out (Nat.le_of_lt lt)).trans n2)
  refine hK.out _ _ (n2.cl X9.out (by omega) (by decide)) (fun _=>?_)
  clear hK KK n1 n2
  try simp only[Act.put,BP,BN,BK,BQ,BS,BM]
  refine wpAnyH_done (by kernel_rfl) ?_ _
  go_wp2_with fail
  go_end0
  exact⟨rfl,v',N1.out,N2.out⟩
 have e1:(x.k==1)=false:=by simp[hk1]
 have hkk:=hxy hk1
 clear hk1
 by_cases hm1:x.m= -1
 ·have e2:(x.m== -1)=true:=by simp[hm1]
  have hmm:=hxy hm1
  clear hm1
  go_upto_region 5 with fail
  have r0:∀w':World,w'.heap[xb]?=some (.cells #[Vi x.k,.bool x.s,Vi x.m,Vi x.h,Vi x.lo,Vi x.hi] 42)->w'.cell? (Va xb 0)=some (Vi x.k):=fun w' h=>Ab h 0
  have r1:∀w':World,w'.heap[xb]?=some (.cells #[Vi x.k,.bool x.s,Vi x.m,Vi x.h,Vi x.lo,Vi x.hi] 42)->w'.cell? (Va xb 1)=some (.bool x.s):=fun w' h=>Ab h 1
  have r2:∀w':World,w'.heap[xb]?=some (.cells #[Vi x.k,.bool x.s,Vi x.m,Vi x.h,Vi x.lo,Vi x.hi] 42)->w'.cell? (Va xb 2)=some (Vi x.m):=fun w' h=>Ab h 2
  have r3:∀w':World,w'.heap[xb]?=some (.cells #[Vi x.k,.bool x.s,Vi x.m,Vi x.h,Vi x.lo,Vi x.hi] 42)->w'.cell? (Va xb 3)=some (Vi x.h):=fun w' h=>Ab h 3
  have r4:∀w':World,w'.heap[xb]?=some (.cells #[Vi x.k,.bool x.s,Vi x.m,Vi x.h,Vi x.lo,Vi x.hi] 42)->w'.cell? (Va xb 4)=some (Vi x.lo):=fun w' h=>Ab h 4
  have r5:∀w':World,w'.heap[xb]?=some (.cells #[Vi x.k,.bool x.s,Vi x.m,Vi x.h,Vi x.lo,Vi x.hi] 42)->w'.cell? (Va xb 5)=some (Vi x.hi):=fun w' h=>Ab h 5
  have HLN:Hid (Ir [bs [114,101,103],bs (Lib.itoa (k:Int)),bs [97,110,121],bs (CP x.s)]=Db k x):=(by
   rw[dG]
   unfold Db
   rw[if_neg hkk.out,if_pos hmm.out]
   simp only[List.append_assoc,List.cons_append,List.nil_append]:Ir [bs [114,101,103],bs (Lib.itoa (k:Int)),bs [97,110,121],bs (CP x.s)]=Db k x)
  clear c0 c2
  refine wp_region_held_drew (S:=fun w'=>w'.heap[xb]?=some (.cells #[Vi x.k,.bool x.s,Vi x.m,Vi x.h,Vi x.lo,Vi x.hi] 42)) (by kernel_rfl) XU (fun _=>?_)
  refine AB 0 rfl ?_
  refine AB 1 rfl ?_
  refine AB 3 rfl ?_
  refine AB 4 rfl ?_
  obtain⟨v0,hv0,hbd,XV⟩:∃y,u.drew=y/\Below u.heap.size u y/\y.heap[xb]?=some (.cells #[Vi x.k,.bool x.s,Vi x.m,Vi x.h,Vi x.lo,Vi x.hi] 42):=⟨_,rfl,(Below.refl _ _).drew,XU⟩
  rw[hv0]
  have B0:=hxy (BU.out.trans (hbd.mono BU.out.size))
  have X0:=hxy XV
  clear hv0 hbd XV
  refine AO 2 rfl (fun KK hK=>?_)
  go_simp
  refine(Cj (k:Int) (by omega) _ (TBH.out.p _ (B0.out.mono (Nat.le_of_lt lt)))).mono ?_
  rintro e v1⟨rfl,hb⟩
  have B1:=hxy (B0.out.trans (hb.mono B0.out.size))
  have X1:Hid (v1.heap[xb]?=some (.cells #[Vi x.k,.bool x.s,Vi x.m,Vi x.h,Vi x.lo,Vi x.hi] 42)):=(hb.block xb (jH.1 X0.out).1).trans X0.out
  refine hK.out _ _ X1.out (fun _=>?_)
  clear hK KK hb
  try simp only[Act.put,BP,BN,BK,BQ,BS,BM]
  refine AO 5 rfl (fun KK hK=>?_)
  go_simp
  refine(JN x.s _ (TBH.out.a _ (B1.out.mono (Nat.le_of_lt lt)))).mono ?_
  rintro e v2⟨rfl,hb⟩
  have B2:=hxy (B1.out.trans (hb.mono B1.out.size))
  have X2:Hid (v2.heap[xb]?=some (.cells #[Vi x.k,.bool x.s,Vi x.m,Vi x.h,Vi x.lo,Vi x.hi] 42)):=(hb.block xb (jH.1 X1.out).1).trans X1.out
  refine hK.out _ _ X2.out (fun _=>?_)
  clear hK KK hb
  try simp only[Act.put,BP,BN,BK,BQ,BS,BM]
  refine AO 6 rfl (fun KK hK=>?_)
  go_simp
  obtain⟨v9,hv9,hb9,hf9⟩:∃y,v2.alloc (.cells ([bs [114,101,103],bs (Lib.itoa (k:Int)),bs [97,110,121],bs (CP x.s)].map Value.string).toArray 9)=y/\Below v2.heap.size v2 y/\(∀(j:Nat)q,[bs [114,101,103],bs (Lib.itoa (k:Int)),bs [97,110,121],bs (CP x.s)][j]?=some q->y.cell? ⟨v2.heap.size,j,none⟩=some (.string q)):=⟨_,rfl,Ak,FL _ _⟩
  have zb:v2.heap.size<v9.heap.size:=by rw[<-hv9];simp
  show KK _ (v2.alloc (.cells ([bs [114,101,103],bs (Lib.itoa (k:Int)),bs [97,110,121],bs (CP x.s)].map Value.string).toArray 9))
  rw[hv9]
  have X9:Hid (v9.heap[xb]?=some (.cells #[Vi x.k,.bool x.s,Vi x.m,Vi x.h,Vi x.lo,Vi x.hi] 42)):=(hb9.block xb (jH.1 X2.out).1).trans X2.out
  have B9:=hxy (B2.out.trans (hb9.mono B2.out.size))
  have F9:Hid _:=hf9
  refine hK.out _ _ X9.out (fun _=>?_)
  clear hK KK hb9 hf9 hv9
  try simp only[Act.put,BP,BN,BK,BQ,BS,BM]
  refine AO 7 rfl (fun KK hK=>?_)
  go_simp
  refine(Em pb sb v t v2.heap.size 4 [bs [114,101,103],bs (Lib.itoa (k:Int)),bs [97,110,121],bs (CP x.s)] v9 (H.out.below B9.out) F9.out zb (by simp) (by simp) (by rw[HLN.out];omega) (by omega)).mono ?_
  rintro e w9⟨rfl,v',n1,n2⟩
  rw[HLN.out]at n1
  have N1:=hxy n1
  have N2:=hxy ((PF.of_below B9.out (Nat.le_of_lt lt)).trans n2)
  refine hK.out _ _ (n2.cl X9.out (by omega) (by decide)) (fun _=>?_)
  clear hK KK n1 n2
  try simp only[Act.put,BP,BN,BK,BQ,BS,BM]
  refine wpAnyH_done (by kernel_rfl) ?_ _
  go_wp2_with fail
  go_end0
  exact⟨rfl,v',N1.out,N2.out⟩
 have e2:(x.m== -1)=false:=by simp[hm1]
 have hmm:=hxy hm1
 clear hm1
 go_upto_region 1 with fail
 have r0:∀w':World,w'.heap[xb]?=some (.cells #[Vi x.k,.bool x.s,Vi x.m,Vi x.h,Vi x.lo,Vi x.hi] 42)->w'.cell? (Va xb 0)=some (Vi x.k):=fun w' h=>Ab h 0
 have r1:∀w':World,w'.heap[xb]?=some (.cells #[Vi x.k,.bool x.s,Vi x.m,Vi x.h,Vi x.lo,Vi x.hi] 42)->w'.cell? (Va xb 1)=some (.bool x.s):=fun w' h=>Ab h 1
 have r2:∀w':World,w'.heap[xb]?=some (.cells #[Vi x.k,.bool x.s,Vi x.m,Vi x.h,Vi x.lo,Vi x.hi] 42)->w'.cell? (Va xb 2)=some (Vi x.m):=fun w' h=>Ab h 2
 have r3:∀w':World,w'.heap[xb]?=some (.cells #[Vi x.k,.bool x.s,Vi x.m,Vi x.h,Vi x.lo,Vi x.hi] 42)->w'.cell? (Va xb 3)=some (Vi x.h):=fun w' h=>Ab h 3
 have r4:∀w':World,w'.heap[xb]?=some (.cells #[Vi x.k,.bool x.s,Vi x.m,Vi x.h,Vi x.lo,Vi x.hi] 42)->w'.cell? (Va xb 4)=some (Vi x.lo):=fun w' h=>Ab h 4
 have r5:∀w':World,w'.heap[xb]?=some (.cells #[Vi x.k,.bool x.s,Vi x.m,Vi x.h,Vi x.lo,Vi x.hi] 42)->w'.cell? (Va xb 5)=some (Vi x.hi):=fun w' h=>Ab h 5
 have HLN:Hid (Ir [bs [114,101,103],bs (Lib.itoa (k:Int)),bs (Lib.itoa x.m),bs (CP x.s)]=Db k x):=(by
  rw[dG]
  unfold Db
  rw[if_neg hkk.out,if_neg hmm.out]
  simp only[List.append_assoc,List.cons_append,List.nil_append]:Ir [bs [114,101,103],bs (Lib.itoa (k:Int)),bs (Lib.itoa x.m),bs (CP x.s)]=Db k x)
 clear c0 c2
 refine wp_region_held_drew (S:=fun w'=>w'.heap[xb]?=some (.cells #[Vi x.k,.bool x.s,Vi x.m,Vi x.h,Vi x.lo,Vi x.hi] 42)) (by kernel_rfl) XU (fun _=>?_)
 refine AB 0 rfl ?_
 refine AB 1 rfl ?_
 refine AB 3 rfl ?_
 refine AB 4 rfl ?_
 refine AB 6 rfl ?_
 refine AB 7 rfl ?_
 obtain⟨v0,hv0,hbd,XV⟩:∃y,u.drew=y/\Below u.heap.size u y/\y.heap[xb]?=some (.cells #[Vi x.k,.bool x.s,Vi x.m,Vi x.h,Vi x.lo,Vi x.hi] 42):=⟨_,rfl,(Below.refl _ _).drew,XU⟩
 rw[hv0]
 have B0:=hxy (BU.out.trans (hbd.mono BU.out.size))
 have X0:=hxy XV
 clear hv0 hbd XV
 refine AO 2 rfl (fun KK hK=>?_)
 go_simp
 refine(Cj (k:Int) (by omega) _ (TBH.out.p _ (B0.out.mono (Nat.le_of_lt lt)))).mono ?_
 rintro e v1⟨rfl,hb⟩
 have B1:=hxy (B0.out.trans (hb.mono B0.out.size))
 have X1:Hid (v1.heap[xb]?=some (.cells #[Vi x.k,.bool x.s,Vi x.m,Vi x.h,Vi x.lo,Vi x.hi] 42)):=(hb.block xb (jH.1 X0.out).1).trans X0.out
 refine hK.out _ _ X1.out (fun _=>?_)
 clear hK KK hb
 try simp only[Act.put,BP,BN,BK,BQ,BS,BM]
 refine AO 5 rfl (fun KK hK=>?_)
 go_simp
 refine(Cj x.m (by omega) _ (TBH.out.p _ (B1.out.mono (Nat.le_of_lt lt)))).mono ?_
 rintro e v2⟨rfl,hb⟩
 have B2:=hxy (B1.out.trans (hb.mono B1.out.size))
 have X2:Hid (v2.heap[xb]?=some (.cells #[Vi x.k,.bool x.s,Vi x.m,Vi x.h,Vi x.lo,Vi x.hi] 42)):=(hb.block xb (jH.1 X1.out).1).trans X1.out
 refine hK.out _ _ X2.out (fun _=>?_)
 clear hK KK hb
 try simp only[Act.put,BP,BN,BK,BQ,BS,BM]
 refine AO 8 rfl (fun KK hK=>?_)
 go_simp
 refine(JN x.s _ (TBH.out.a _ (B2.out.mono (Nat.le_of_lt lt)))).mono ?_
 rintro e v3⟨rfl,hb⟩
 have B3:=hxy (B2.out.trans (hb.mono B2.out.size))
 have X3:Hid (v3.heap[xb]?=some (.cells #[Vi x.k,.bool x.s,Vi x.m,Vi x.h,Vi x.lo,Vi x.hi] 42)):=(hb.block xb (jH.1 X2.out).1).trans X2.out
 refine hK.out _ _ X3.out (fun _=>?_)
 clear hK KK hb
 try simp only[Act.put,BP,BN,BK,BQ,BS,BM]
 refine AO 9 rfl (fun KK hK=>?_)
 go_simp
 obtain⟨v9,hv9,hb9,hf9⟩:∃y,v3.alloc (.cells ([bs [114,101,103],bs (Lib.itoa (k:Int)),bs (Lib.itoa x.m),bs (CP x.s)].map Value.string).toArray 9)=y/\Below v3.heap.size v3 y/\(∀(j:Nat)q,[bs [114,101,103],bs (Lib.itoa (k:Int)),bs (Lib.itoa x.m),bs (CP x.s)][j]?=some q->y.cell? ⟨v3.heap.size,j,none⟩=some (.string q)):=⟨_,rfl,Ak,FL _ _⟩
 have zb:v3.heap.size<v9.heap.size:=by rw[<-hv9];simp
 show KK _ (v3.alloc (.cells ([bs [114,101,103],bs (Lib.itoa (k:Int)),bs (Lib.itoa x.m),bs (CP x.s)].map Value.string).toArray 9))
 rw[hv9]
 have X9:Hid (v9.heap[xb]?=some (.cells #[Vi x.k,.bool x.s,Vi x.m,Vi x.h,Vi x.lo,Vi x.hi] 42)):=(hb9.block xb (jH.1 X3.out).1).trans X3.out
 have B9:=hxy (B3.out.trans (hb9.mono B3.out.size))
 have F9:Hid _:=hf9
 refine hK.out _ _ X9.out (fun _=>?_)
 clear hK KK hb9 hf9 hv9
 try simp only[Act.put,BP,BN,BK,BQ,BS,BM]
 refine AO 10 rfl (fun KK hK=>?_)
 go_simp
 refine(Em pb sb v t v3.heap.size 4 [bs [114,101,103],bs (Lib.itoa (k:Int)),bs (Lib.itoa x.m),bs (CP x.s)] v9 (H.out.below B9.out) F9.out zb (by simp) (by simp) (by rw[HLN.out];omega) (by omega)).mono ?_
 rintro e w9⟨rfl,v',n1,n2⟩
 rw[HLN.out]at n1
 have N1:=hxy n1
 have N2:=hxy ((PF.of_below B9.out (Nat.le_of_lt lt)).trans n2)
 refine hK.out _ _ (n2.cl X9.out (by omega) (by decide)) (fun _=>?_)
 clear hK KK n1 n2
 try simp only[Act.put,BP,BN,BK,BQ,BS,BM]
 refine wpAnyH_done (by kernel_rfl) ?_ _
 go_wp2_with fail
 go_end0
 exact⟨rfl,v',N1.out,N2.out⟩
end Go.Proofs.YtfpeecaaleijcaaGreatDoor
