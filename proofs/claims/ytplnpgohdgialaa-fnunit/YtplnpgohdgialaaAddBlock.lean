import Derived.Test.YtplnpgohdgialaaOfInlSpec
import Derived.Laws.AppendOwnNone
set_option maxHeartbeats 32000000
set_option maxRecDepth 20000
namespace Go.Proofs.Ytplnpgohdgialaa
open Go.RowKit
def AddC(w0:World)(B:Nat->List SV)(L:Nat->SV)(bb np cb i te:Nat)(tv:Value):Prop:=
 ∀(w:World)(lv:Value)(xs:List SV),Below w0.heap.size w0 w->w.ownsRow w0.heap.size 33 11 lv xs.length (cs xs)->xs.length+(inlB B L i te).length<=4000->
  Calls Try.prog 20 #[lv,tv,.slice (some ⟨bb,0,none⟩) np cb] w fun e w'=>∃v',e=.returned v'/\w'.ownsRow w0.heap.size 33 11 v' (xs++inlB B L i te).length (cs (xs++inlB B L i te))/\w.grownBy w' lv.ownBlock/\(v'.ownBlock=lv.ownBlock∨∃k,v'.ownBlock=some k/\w.heap.size<=k)
theorem gr_refl(w:World)(ob:Option Nat):w.grownBy w ob:=⟨rfl,rfl,rfl,Nat.le_refl _,fun _ _ _=>rfl⟩
theorem gr_alloc{w w':World}{ob:Option Nat}(h:w.grownBy w' ob)(o:Obj):w.grownBy (w'.alloc o) ob:=
 have b:Below w'.heap.size w' (w'.alloc o):=(Below.refl _ _).alloc (Nat.le_refl _) _
 ⟨b.os.trans h.os,b.tape.trans h.tape,b.output.trans h.output,Nat.le_trans h.size b.size,fun k hk hn=>(b.block k (Nat.lt_of_lt_of_le hk h.size)).trans (h.block k hk hn)⟩
theorem gr_next{w w1 w2:World}{ob ob1:Option Nat}(h:w.grownBy w1 ob)(g:w1.grownBy w2 ob1)(ha:ob1=ob∨∃k,ob1=some k/\w.heap.size<=k):w.grownBy w2 ob:=
 ⟨g.os.trans h.os,g.tape.trans h.tape,g.output.trans h.output,Nat.le_trans h.size g.size,fun k hk hn=>(g.block k (Nat.lt_of_lt_of_le hk h.size) (fun e=>by
   rcases ha with e1|⟨k1,e1,h1⟩
   ·exact hn (e.trans e1)
   ·rw[e1]at e;have:=Option.some.inj e;omega)).trans (h.block k hk hn)⟩
theorem grown_at{w w1:World}{ob ob1 ob2:Option Nat}(hs:w.heap.size<=w1.heap.size)(h1:ob1=ob∨∃k,ob1=some k/\w.heap.size<=k)(h2:ob2=ob1∨∃k,ob2=some k/\w1.heap.size<=k):ob2=ob∨∃k,ob2=some k/\w.heap.size<=k:=by
 rcases h2 with e|⟨k,e,h⟩
 ·rw[e];exact h1
 ·exact .inr ⟨k,e,by omega⟩
theorem st_single{s:SV}{procs:Int}(h:stOK s procs=true)(k:s.k=1):s.cond=0/\s.thn=0/\s.els=0/\s.proc=0:=by
 unfold stOK at h;rw[if_pos k]at h;simp at h;exact⟨h.2.2.1,h.2.2.2.1,h.2.2.2.2.1,h.2.2.2.2.2⟩
theorem cs_set8(A R:List SV)(s:SV)(t:Int):(cs (A++s::R)).set (A.length*11+8) (.int .i64 t)=cs (A++{s with thn:=t}::R):=by
 rw[cs_app,cs_app];rw[List.set_append,if_neg (by rw[cs_len];omega),cs_len,show A.length*11+8-A.length*11=8 by omega];rfl
theorem cs_set9(A R:List SV)(s:SV)(t:Int):(cs (A++s::R)).set (A.length*11+9) (.int .i64 t)=cs (A++{s with els:=t}::R):=by
 rw[cs_app,cs_app];rw[List.set_append,if_neg (by rw[cs_len];omega),cs_len,show A.length*11+9-A.length*11=9 by omega];rfl
theorem cs_at8(A R:List SV)(s:SV):(cs (A++s::R))[A.length*11+8]?=some (.int .i64 s.thn):=by
 rw[cs_app,List.getElem?_append_right (by rw[cs_len];omega),cs_len,show A.length*11+8-A.length*11=8 by omega];rfl
theorem cs_at9(A R:List SV)(s:SV):(cs (A++s::R))[A.length*11+9]?=some (.int .i64 s.els):=by
 rw[cs_app,List.getElem?_append_right (by rw[cs_len];omega),cs_len,show A.length*11+9-A.length*11=9 by omega];rfl
theorem gr_drew{w w':World}{ob:Option Nat}(h:w.grownBy w' ob):w.grownBy w'.drew ob:=⟨h.os,h.tape,h.output,h.size,h.block⟩
theorem gr_cl{w w':World}{ob:Option Nat}{b:Nat}{vs:List Value}(g:w.grownBy w' ob)(h:Cl w b vs)(hn:ob≠some b):Cl w' b vs:=
 ⟨Nat.lt_of_lt_of_le h.1 g.size,fun i hi=>(World.cell?_of_block (a:=⟨b,i,none⟩) (g.block b h.1 (fun e=>hn e.symm))).trans (h.2 i hi)⟩
theorem st_bare{s:SV}{procs:Int}(h:stOK s procs=true)(k:s.k=2∨s.k=3):noIns s/\s.proc=0:=by
 unfold stOK at h;rcases k with k|k
 ·rw[if_neg (by omega),if_pos k]at h;simp at h;exact⟨h.1,h.2.2.2.2.2⟩
 ·rw[if_neg (by omega),if_neg (by omega),if_pos k]at h;simp at h;exact⟨h.1,h.2.2.2.2.2⟩
theorem st_put{s:SV}{procs k:Int}(h:stOK s procs=true)(hk:s.k=k)(k2:k=2∨k=3)(a b:Nat):stL (s.put a b)=[.int .i64 k,.int .i64 0,.int .i64 0,.int .i64 0,.int .i64 0,.int .i64 0,.int .i64 0,.int .i64 s.cond,.int .i64 (a:Int),.int .i64 (b:Int),.int .i64 0]:=by
 obtain⟨⟨h1,h2,h3,h4,h5,h6⟩,h7⟩:=st_bare h (by omega);show[_,_,_,_,_,_,_,_,_,_,_]=_;rw[show(s.put a b).k=k from hk,show(s.put a b).op=0 from h1,show(s.put a b).d=0 from h2,show(s.put a b).a=0 from h3,show(s.put a b).b=0 from h4,show(s.put a b).imm=0 from h5,show(s.put a b).h=0 from h6,show(s.put a b).proc=0 from h7];rfl
theorem readyH_append{P:Program}{md:Region.Mode}{ops:Array Oper}{Q:Exit->Act->World->Prop}{S:World->Prop}{fuel i:Nat}{listed:Array Bool}{a:Act}{w w':World}{o:Oper}(s x:Operand){t:TypeId}{v u v':Value}(ho:ops[i]?=some o)(hw:Region.wanted o (yielded ops a.tmps)=true)
 (hop:o.op=.call {callee:=.builtin .append,args:=#[s,x],argTypes:=#[t,t]})(hs:a.eval s=v)(hx:a.eval x=u)(hr:(Builtin.append_ #[t,t] o.type #[v,u]).run P w=.ok v' w')(hS:S w')(h:S w'->wpAnyH P md ops Q S fuel (listed.setIfInBounds i true) (a.put o.dst v') w'):AllReadyH P md ops Q S fuel listed a w [i]:=
 AllReadyH.cons ho (fun K' hK=>by
  rw[if_pos hw];unfold Oper.wp execOp;simp only[hop,resolve,invoke,builtin,Sem.run_bind,Sem.run_pure,Result.andThen_ok,List.map_toArray,List.map_cons,List.map_nil,hs,hx,hr];exact hK _ _ hS h) AllReadyH.nil
theorem RepN.shape{L:Nat->SV}{w:World}{S:Nat->Prop}:∀(m:Nat){v:Value}{i te:Nat},RepN L m w S v i te->∃(ao:Option Addr)(k c:Nat),v=.slice ao k c
 |0,_,_,_,h=>⟨_,_,_,h.2⟩
 |_+1,_,_,_,⟨_,hr,_⟩=>row_slice hr.1
theorem ta11(v:Value)(w:World):(Instr.typeAssert (.iface 91 v) 89 91 true).run Try.prog w=.ok (.tuple #[v,.bool true]) w:=by kernel_rfl
theorem ta21(v:Value)(w:World):(Instr.typeAssert (.iface 93 v) 89 91 true).run Try.prog w=.ok (.tuple #[.agg #[.int .i64 0,.int .i64 0,.int .i64 0,.int .i64 0,.int .i64 0,.int .i64 0,.int .i64 0],.bool false]) w:=by kernel_rfl
theorem ta22(v:Value)(w:World):(Instr.typeAssert (.iface 93 v) 89 93 true).run Try.prog w=.ok (.tuple #[v,.bool true]) w:=by kernel_rfl
theorem ta31(v:Value)(w:World):(Instr.typeAssert (.iface 95 v) 89 91 true).run Try.prog w=.ok (.tuple #[.agg #[.int .i64 0,.int .i64 0,.int .i64 0,.int .i64 0,.int .i64 0,.int .i64 0,.int .i64 0],.bool false]) w:=by kernel_rfl
theorem ta32(v:Value)(w:World):(Instr.typeAssert (.iface 95 v) 89 93 true).run Try.prog w=.ok (.tuple #[.agg #[.int .i64 0,.int .i64 0,.slice none 0 0,.slice none 0 0],.bool false]) w:=by kernel_rfl
theorem ta33(v:Value)(w:World):(Instr.typeAssert (.iface 95 v) 89 95 true).run Try.prog w=.ok (.tuple #[v,.bool true]) w:=by kernel_rfl
theorem ta41(v:Value)(w:World):(Instr.typeAssert (.iface 97 v) 89 91 true).run Try.prog w=.ok (.tuple #[.agg #[.int .i64 0,.int .i64 0,.int .i64 0,.int .i64 0,.int .i64 0,.int .i64 0,.int .i64 0],.bool false]) w:=by kernel_rfl
theorem ta42(v:Value)(w:World):(Instr.typeAssert (.iface 97 v) 89 93 true).run Try.prog w=.ok (.tuple #[.agg #[.int .i64 0,.int .i64 0,.slice none 0 0,.slice none 0 0],.bool false]) w:=by kernel_rfl
theorem ta43(v:Value)(w:World):(Instr.typeAssert (.iface 97 v) 89 95 true).run Try.prog w=.ok (.tuple #[.agg #[.int .i64 0,.int .i64 0,.slice none 0 0],.bool false]) w:=by kernel_rfl
theorem ta44(v:Value)(w:World):(Instr.typeAssert (.iface 97 v) 89 97 true).run Try.prog w=.ok (.tuple #[v,.bool true]) w:=by kernel_rfl
theorem addBlock_go(w0:World)(B:Nat->List SV)(L:Nat->SV)(bb np cb:Nat)(bv:Nat->Value)(me deep:Int)(m i te:Nat)(depth:Int)(tv:Value)(S:Nat->Prop)
 (hr:RepN L (m+1) w0 S tv i te)(hit:i<=te)(hte:te<=2000)(hck:(chk L me (np:Int) deep i te depth).1=0)(hB:At w0 bb 0 np bv)
 (hV:∀p,i<=p->p<te->(L p).k=4->w0.ownsRow 0 33 11 (bv (L p).proc.toNat) (B (L p).proc.toNat).length (cs (B (L p).proc.toNat)))
 (ih:∀i' te' d v,i<i'->i'<=te'->te'<=te->(chk L me (np:Int) deep i' te' d).1=0->RepN L m w0 S v i' te'->AddC w0 B L bb np cb i' te' v):AddC w0 B L bb np cb i te tv:=by
 intro w lv xs hb0 hown hsz
 obtain⟨ns,hrow,hxl,hx⟩:=hr
 obtain⟨aot,kt,ct,htv⟩:=row_slice hrow.1
 subst htv
 have HROW:Hid (RowS w0 S (.slice aot kt ct) ns):=hrow
 have HXL:Hid (ns.length=(tops L i te).length):=hxl
 have HX:Hid _:=hx
 have HCK:Hid ((chk L me (np:Int) deep i te depth).1=0):=hck
 have HBB:Hid (At w0 bb 0 np bv):=hB
 have HV:Hid _:=hV
 have IH:Hid _:=ih
 have HB0:Hid (Below w0.heap.size w0 w):=hb0
 have O0:Hid (w.ownsRow w0.heap.size 33 11 lv xs.length (cs xs)):=hown
 have lw:=hb0.size
 have lbb:=hB.1
 obtain⟨all,hall⟩:∃x,inlB B L i te=x:=⟨_,rfl⟩
 rw[hall]at hsz⊢
 have HALL:Hid (inlB B L i te=all):=hall
 have hkt:kt=ns.length:=by
  rcases hrow.1.2 with⟨e,e2⟩|⟨g,cap,cur,e,_⟩
  ·have:=(Value.slice.inj e).2.1;omega
  ·exact(Value.slice.inj e).2.1
 have hk2:kt<=2000:=by rw[hkt,hxl];exact Nat.le_trans (tops_len L _ i te (Nat.le_refl _)) (by omega)
 have HKT:Hid (kt=ns.length):=hkt
 clear hrow hxl hx hck hB hV ih hb0 hown hall hkt
 obtain⟨aol,kl,cl,hlv⟩:=row_slice O0.out
 subst hlv
 obtain⟨iS,gS,gS0,gS1,gS2⟩:=info_parts info_stmt
 have HIS:Hid (_/\_/\_/\_):=⟨gS,gS0,gS1,gS2⟩
 clear gS gS0 gS1 gS2
 go_enter Try.func20,Try.ntmps20
 go_wp2
 go_loopw [0,17](fun lvv iv wr=>∃(q p:Nat)(done:List SV),q<=kt/\i<=p/\p<=te/\iv=.int .i64 (q:Int)/\wr.ownsRow w0.heap.size 33 11 lvv (xs++done).length (cs (xs++done))/\w.grownBy wr (Value.slice aol kl cl).ownBlock/\(lvv.ownBlock=(Value.slice aol kl cl).ownBlock∨∃k,lvv.ownBlock=some k/\w.heap.size<=k)/\done++inlB B L p te=all/\(tops L i te).drop q=tops L p te/\(chk L me (np:Int) deep p te depth).1=0)(fun _ iv _=>kt-(intOf iv).toNat)
 case atStart=>exact⟨0,i,[],Nat.zero_le _,Nat.le_refl _,hit,rfl,by rw[List.append_nil];exact O0.out,gr_refl _ _,.inl rfl,HALL.out,by simp,HCK.out⟩
 case round=>
  obtain⟨q,p,done,hq,hip,hpt,rfl,ho,hg,ha,hd,hdr,hc⟩:=hrel
  obtain⟨ao1,k1,c1,hl1⟩:=row_slice ho
  subst hl1
  have hk1:k1=(xs++done).length:=by
   rcases ho.2 with⟨e,e2⟩|⟨g,cap,cur,e,_⟩
   ·have:=(Value.slice.inj e).2.1;omega
   ·exact(Value.slice.inj e).2.1
  have O1:Hid (wr.ownsRow w0.heap.size 33 11 (.slice ao1 k1 c1) k1 (cs (xs++done))):=(by rw[hk1]at ho⊢;exact ho:wr.ownsRow w0.heap.size 33 11 (.slice ao1 k1 c1) k1 (cs (xs++done)))
  have G1:Hid (w.grownBy wr (Value.slice aol kl cl).ownBlock):=hg
  have A1:Hid ((Value.slice ao1 k1 c1).ownBlock=(Value.slice aol kl cl).ownBlock∨∃k,(Value.slice ao1 k1 c1).ownBlock=some k/\w.heap.size<=k):=ha
  have HD:Hid (done++inlB B L p te=all):=hd
  have HDR:Hid ((tops L i te).drop q=tops L p te):=hdr
  have HK:Hid ((chk L me (np:Int) deep p te depth).1=0):=hc
  have B1:Hid (Below w0.heap.size w0 wr):=HB0.out.grown hg lw (fun k hk=>(O0.out.lt k hk).1)
  have hln:k1+(inlB B L p te).length<=4000:=by
   have:=hsz
   rw[<-hd]at this
   rw[hk1]
   simp only[List.length_append]at this⊢
   omega
  have HK1:Hid (k1=(xs++done).length):=hk1
  have l1:=B1.out.size
  clear ho hg ha hd hdr hc hk1
  by_cases hlt:p<te
  rotate_left
  ·have hpe:p=te:=by omega
   have hqn:q=kt:=by
    have h:=congrArg List.length HDR.out
    rw[List.length_drop,<-HXL.out,<-HKT.out,tops_end hlt]at h
    simp at h;omega
   have hqx':¬(q:Int)<(kt:Int):=by omega
   have hdone:done=all:=by have:=HD.out;rw[inlB_end hlt,List.append_nil]at this;exact this
   subst hdone
   go_wp2
   go_ret
   refine⟨.slice ao1 k1 c1,rfl,?_,G1.out,A1.out⟩
   have h:=O1.out
   rw[HK1.out,List.length_append]at h
   rw[HK1.out,List.length_append]
   exact h
  have hqx:q<kt:=by
   have h:=congrArg List.length HDR.out
   rw[List.length_drop,<-HXL.out,<-HKT.out,tops_more hlt]at h
   simp at h;omega
  have hqx':(q:Int)<(kt:Int):=by omega
  obtain⟨gt,ctt,htt⟩:=row_some2 HROW.out.1 (by rw[<-HKT.out];omega)
  obtain⟨rfl,hz,rfl⟩:=Value.slice.inj htt
  clear hz
  have HR2:Hid (w0.ownsRow 0 89 1 (.slice (some ⟨gt,0,none⟩) ns.length ct) ns.length ns):=(by have:=HROW.out.1;rwa [HKT.out]at this:w0.ownsRow 0 89 1 (.slice (some ⟨gt,0,none⟩) ns.length ct) ns.length ns)
  obtain⟨x,hxq⟩:∃x,ns[q]?=some x:=⟨ns[q]'(by rw[<-HKT.out];exact hqx),by simp[<-HKT.out,hqx]⟩
  have hpq:(tops L i te)[q]?=some p:=by
   have h:=congrArg (fun l=>l[0]?) HDR.out
   simp only[tops_more hlt,List.getElem?_drop,Nat.add_zero,List.getElem?_cons_zero]at h
   exact h
  have hdn:(tops L i te).drop (q+1)=tops L (p+1+(L p).thn.toNat+(L p).els.toNat) te:=by
   have h:=congrArg (List.drop 1) HDR.out
   rw[List.drop_drop,tops_more hlt]at h
   simpa[Nat.add_comm]using h
  have lgt:gt<w0.heap.size:=(HROW.out.1.lt gt rfl).2
  have g0:wr.cell? ⟨gt,q,none⟩=some x:=by
   rw[B1.out.cell (p:=⟨gt,q,none⟩) lgt,HR2.out.cellAt q (by rw[<-HKT.out];omega)]
   exact hxq
  obtain⟨sok,hnt,k1',k2',k3'⟩:=chk_next HK.out hlt
  have HSOK:Hid (stOK (L p) (np:Int)=true):=sok
  have HC1:Hid _:=k1'
  have HC2:Hid _:=k2'
  have HC3:Hid _:=k3'
  have HDN:Hid _:=hdn
  have HNT:Hid (p+1+(L p).thn.toNat+(L p).els.toNat<=te):=hnt
  have hcase:=HX.out q x p hxq hpq
  clear sok k1' k2' k3' hdn hnt hxq hpq htt HDR HK
  rcases hcase with⟨k1,rfl⟩|⟨k2,v1,v2,rfl,r1,r2⟩|⟨k3,v1,rfl,r1⟩|⟨k4,rfl⟩
  ·have K:Hid ((L p).k=1):=k1
   clear k1
   have t1:=ta11
   go_upto_region 8 with fail
   clear t1 g0
   obtain⟨u1,hu1,hb1,hc1⟩:∃x,wr.alloc (.cells #[.int .i64 (p:Int),.int .i64 (L p).op,.int .i64 (L p).d,.int .i64 (L p).a,.int .i64 (L p).b,.int .i64 (L p).imm,.int .i64 (L p).h] 91)=x/\Below wr.heap.size wr x/\Cl x wr.heap.size [.int .i64 (p:Int),.int .i64 (L p).op,.int .i64 (L p).d,.int .i64 (L p).a,.int .i64 (L p).b,.int .i64 (L p).imm,.int .i64 (L p).h]:=⟨_,rfl,(Below.refl _ _).alloc (Nat.le_refl _) _,Cl.new⟩
   have G2:Hid (w.grownBy u1 (Value.slice aol kl cl).ownBlock):=(by rw[<-hu1];exact gr_alloc G1.out _:w.grownBy u1 (Value.slice aol kl cl).ownBlock)
   rw[hu1]
   have O2:Hid (u1.ownsRow w0.heap.size 33 11 (.slice ao1 k1 c1) k1 (cs (xs++done))):=row_belowU O1.out hb1
   have z1:=hb1.size
   have zx:=hc1.1
   have c1':u1.cell? ⟨wr.heap.size,1,none⟩=some (.int .i64 (L p).op):=hc1.2 1 (by simp)
   have c2':u1.cell? ⟨wr.heap.size,2,none⟩=some (.int .i64 (L p).d):=hc1.2 2 (by simp)
   have c3':u1.cell? ⟨wr.heap.size,3,none⟩=some (.int .i64 (L p).a):=hc1.2 3 (by simp)
   have c4':u1.cell? ⟨wr.heap.size,4,none⟩=some (.int .i64 (L p).b):=hc1.2 4 (by simp)
   have c5':u1.cell? ⟨wr.heap.size,5,none⟩=some (.int .i64 (L p).imm):=hc1.2 5 (by simp)
   have c6':u1.cell? ⟨wr.heap.size,6,none⟩=some (.int .i64 (L p).h):=hc1.2 6 (by simp)
   obtain⟨y1,y2,y3,y4⟩:=st_single HSOK.out K.out
   have hnode:inlB B L p te=(L p).put 0 0::inlB B L (p+1) te:=by
    have hk4:¬(L p).k=4:=by rw[K.out];decide
    rw[inlB_node hlt HNT.out hk4,y2,y3]
    simp only[Int.toNat_zero,Nat.add_zero]
    rw[inlB_end (i:=p+1) (te:=p+1) (by omega)]
    rfl
   have hst:stL ((L p).put 0 0)=[.int .i64 1,.int .i64 (L p).op,.int .i64 (L p).d,.int .i64 (L p).a,.int .i64 (L p).b,.int .i64 (L p).imm,.int .i64 (L p).h,.int .i64 0,.int .i64 0,.int .i64 0,.int .i64 0]:=by
    show[_,_,_,_,_,_,_,_,_,_,_]=_
    rw[show((L p).put 0 0).k=1 from K.out,show((L p).put 0 0).cond=0 from y1,show((L p).put 0 0).proc=0 from y4]
    rfl
   have HD2:Hid (done++[(L p).put 0 0]++inlB B L (p+1) te=all):=(by rw[<-HD.out,hnode];simp:done++[(L p).put 0 0]++inlB B L (p+1) te=all)
   have HST:Hid (stL ((L p).put 0 0)=[.int .i64 1,.int .i64 (L p).op,.int .i64 (L p).d,.int .i64 (L p).a,.int .i64 (L p).b,.int .i64 (L p).imm,.int .i64 (L p).h,.int .i64 0,.int .i64 0,.int .i64 0,.int .i64 0]):=hst
   have hln2:k1+1+(inlB B L (p+1) te).length<=4000:=by rw[hnode]at hln;simp only[List.length_cons]at hln;omega
   have HE:Hid (p+1+(L p).thn.toNat+(L p).els.toNat=p+1):=(by rw[y2,y3];rfl:p+1+(L p).thn.toNat+(L p).els.toNat=p+1)
   clear hu1 hb1 hc1 y1 y2 y3 y4 hnode hst O1 G1
   go_wp2_with(first|(at_builtin;refine wpList_append_own_at _ rfl _ _ 28 rfl w0.heap.size 33 iS _ 11 88 Try.underlying28 HIS.out.1 HIS.out.2.1 HIS.out.2.2.1 HIS.out.2.2.2 rfl (by decide) (.slice ao1 k1 c1) k1 (cs (xs++done)) rfl (row_belowU O2.out ((Below.refl _ _).alloc (Nat.le_refl _) _)) ⟨u1.heap.size,0,none⟩ 1 1 [.int .i64 1,.int .i64 (L p).op,.int .i64 (L p).d,.int .i64 (L p).a,.int .i64 (L p).b,.int .i64 (L p).imm,.int .i64 (L p).h,.int .i64 0,.int .i64 0,.int .i64 0,.int .i64 0] rfl rfl (cells_new _ _ _) (by rw[<-HST.out,<-cs_one];exact cs_flat _) ?c3 ?c4 ?c5 ?_)|go_in)
   case c3=>unfold maxLen;omega
   case c4=>omega
   case c5=>simp;omega
   intro v' w5 hown hgrow _ hat
   rw[<-HST.out,<-cs_one,<-cs_app]at hown
   have G5:Hid (w.grownBy w5 (Value.slice aol kl cl).ownBlock):=gr_next (gr_alloc G2.out _) hgrow A1.out
   have A5:Hid (v'.ownBlock=(Value.slice aol kl cl).ownBlock∨∃k,v'.ownBlock=some k/\w.heap.size<=k):=(by
    rcases hat with e|e
    ·rw[e];exact A1.out
    ·exact .inr ⟨_,e,by have:=G2.out.size;omega⟩:v'.ownBlock=(Value.slice aol kl cl).ownBlock∨∃k,v'.ownBlock=some k/\w.heap.size<=k)
   have O5:Hid (w5.ownsRow w0.heap.size 33 11 v' (k1+1) (cs (xs++done++[(L p).put 0 0]))):=hown
   obtain⟨ao8,k8,c8,rfl⟩:=row_slice hown
   clear hown hgrow hat c1' c2' c3' c4' c5' c6' O2 G2
   go_wp2
   go_roundw
   case rel=>
    have hl:(xs++(done++[(L p).put 0 0])).length=k1+1:=by rw[HK1.out];simp;omega
    refine⟨q+1,p+1,done++[(L p).put 0 0],by omega,by omega,by omega,by go_num,?_,G5.out,A5.out,HD2.out,?_,?_⟩
    ·rw[hl,<-List.append_assoc];exact O5.out
    ·have h:=HDN.out;rw[HE.out]at h;exact h
    ·have h:=HC3.out;rw[HE.out]at h;exact h
   case measure=>simp[intOf];omega
  ·skip
   have K:Hid ((L p).k=2):=k2
   clear k2
   obtain⟨aoa,ka,ca,hva⟩:=RepN.shape m r1
   subst hva
   obtain⟨aob,kb,cb2,hvb⟩:=RepN.shape m r2
   subst hvb
   obtain⟨tp,ep⟩:=st_pos HSOK.out
   obtain⟨a,ha⟩:∃x:Nat,(L p).thn.toNat=x:=⟨_,rfl⟩
   obtain⟨b,hb⟩:∃x:Nat,(L p).els.toNat=x:=⟨_,rfl⟩
   have hnt:p+1+a+b<=te:=by have:=HNT.out;omega
   have HAB:Hid ((L p).thn.toNat=a/\(L p).els.toNat=b):=⟨ha,hb⟩
   have R1:Hid (RepN L m w0 S (.slice aoa ka ca) (p+1) (p+1+a)):=(by rw[<-ha];exact r1:RepN L m w0 S (.slice aoa ka ca) (p+1) (p+1+a))
   have R2:Hid (RepN L m w0 S (.slice aob kb cb2) (p+1+a) (p+1+a+b)):=(by rw[<-ha,<-hb];exact r2:RepN L m w0 S (.slice aob kb cb2) (p+1+a) (p+1+a+b))
   obtain⟨bL,hbL⟩:∃y,inlB B L (p+1+a) (p+1+a+b)=y:=⟨_,rfl⟩
   obtain⟨aL,haL⟩:∃y,inlB B L (p+1) (p+1+a)=y:=⟨_,rfl⟩
   have HK4:¬(L p).k=4:=by rw[K.out];decide
   have HD2:Hid (done++((L p).put aL.length bL.length::(aL++bL))++inlB B L (p+1+a+b) te=all):=(by
    rw[<-HD.out,inlB_node hlt HNT.out HK4,ha,hb,haL,hbL];simp:done++((L p).put aL.length bL.length::(aL++bL))++inlB B L (p+1+a+b) te=all)
   have hln2:k1+1+aL.length+bL.length<=4000:=by
    have h:=hsz
    rw[<-HD2.out]at h
    rw[HK1.out]
    simp only[List.length_append,List.length_cons]at h⊢
    omega
   have t1:=ta21
   have t2:=ta22
   clear ha hb tp ep
   go_upto_region 11 with fail
   clear t1 t2 g0
   obtain⟨u1,hu1,hb1,hc1⟩:∃y,wr.alloc (.cells #[.int .i64 (p:Int),.int .i64 (L p).cond,.slice aoa ka ca,.slice aob kb cb2] 93)=y/\Below wr.heap.size wr y/\Cl y wr.heap.size [.int .i64 (p:Int),.int .i64 (L p).cond,.slice aoa ka ca,.slice aob kb cb2]:=⟨_,rfl,(Below.refl _ _).alloc (Nat.le_refl _) _,Cl.new⟩
   have G2:Hid (w.grownBy u1 (Value.slice aol kl cl).ownBlock):=(by rw[<-hu1];exact gr_alloc G1.out _:w.grownBy u1 (Value.slice aol kl cl).ownBlock)
   rw[hu1]
   have O2:Hid (u1.ownsRow w0.heap.size 33 11 (.slice ao1 k1 c1) k1 (cs (xs++done))):=row_belowU O1.out hb1
   have B2:Hid (Below w0.heap.size w0 u1):=B1.out.trans (hb1.mono l1)
   have NB1:Hid ((Value.slice ao1 k1 c1).ownBlock≠some wr.heap.size):=fun e=>by have:=(O1.out.lt _ e).2;omega
   have z1:=hb1.size
   obtain⟨xb,hxb⟩:∃y,wr.heap.size=y:=⟨_,rfl⟩
   rw[hxb]at hc1 NB1 z1⊢
   have C1:Hid (Cl u1 xb [.int .i64 (p:Int),.int .i64 (L p).cond,.slice aoa ka ca,.slice aob kb cb2]):=hc1
   have zx:=hc1.1
   have HXB:Hid (xb=wr.heap.size):=hxb.symm
   have xw:w.heap.size<=xb:=by have:=G1.out.size;omega
   clear hu1 hb1 hc1 O1 G1 hxb
   have r1c:∀w',Cl w' xb [.int .i64 (p:Int),.int .i64 (L p).cond,.slice aoa ka ca,.slice aob kb cb2]->w'.cell? ⟨xb,1,none⟩=some (.int .i64 (L p).cond):=fun w' h=>h.2 1 (by simp)
   have r2c:∀w',Cl w' xb [.int .i64 (p:Int),.int .i64 (L p).cond,.slice aoa ka ca,.slice aob kb cb2]->w'.cell? ⟨xb,2,none⟩=some (.slice aoa ka ca):=fun w' h=>h.2 2 (by simp)
   refine wp_region_held_drew (S:=fun w'=>Cl w' xb [.int .i64 (p:Int),.int .i64 (L p).cond,.slice aoa ka ca,.slice aob kb cb2]) (by kernel_rfl) (C1.out.below (Below.refl _ _).drew) (fun hd0=>?_)
   have OD:Hid (u1.drew.ownsRow w0.heap.size 33 11 (.slice ao1 k1 c1) k1 (cs (xs++done))):=O2.out.drew
   have GD:Hid (w.grownBy u1.drew (Value.slice aol kl cl).ownBlock):=gr_drew G2.out
   have BD:Hid (Below w0.heap.size w0 u1.drew):=B2.out.trans ((Below.refl _ _).drew)
   have zd:xb<u1.drew.heap.size:=hd0.1
   generalize u1.drew=t0 at hd0 OD GD BD zd⊢
   clear O2 G2 B2 C1
   refine wpAnyH_tk 0 ?k1v rfl ?k1y ?k1r
   case k1y=>(intro w hSw;(try dsimp only at hSw);go_simp;try with_reducible rfl)
   try simp only[Act.put,List.getElem_toArray,List.getElem_cons_zero,List.setIfInBounds_toArray,List.set_cons_zero,List.set_cons_succ]
   refine wpAnyH_tk 1 ?k2v rfl ?k2y ?k2r
   case k2y=>(intro w hSw;(try dsimp only at hSw);go_simp;try with_reducible rfl)
   try simp only[Act.put,List.getElem_toArray,List.getElem_cons_zero,List.getElem_cons_succ,List.setIfInBounds_toArray,List.set_cons_zero,List.set_cons_succ]
   refine wpAnyH_tk 2 ?k3v rfl ?k3y ?k3r
   case k3y=>(intro w hSw;(try dsimp only at hSw);go_simp;try with_reducible rfl)
   try simp only[Act.put,List.getElem_toArray,List.getElem_cons_zero,List.getElem_cons_succ,List.setIfInBounds_toArray,List.set_cons_zero,List.set_cons_succ]
   refine wpAnyH_tk 3 ?k4v rfl ?k4y ?k4r
   case k4y=>(intro w hSw;(try dsimp only at hSw);go_simp;try with_reducible rfl)
   try simp only[Act.put,List.getElem_toArray,List.getElem_cons_zero,List.getElem_cons_succ,List.setIfInBounds_toArray,List.set_cons_zero,List.set_cons_succ]
   refine wpAnyH_tk 6 ?k5v rfl ?k5y ?k5r
   case k5y=>(intro w hSw;(try dsimp only at hSw);go_simp;try with_reducible rfl)
   try simp only[Act.put,List.getElem_toArray,List.getElem_cons_zero,List.getElem_cons_succ,List.setIfInBounds_toArray,List.set_cons_zero,List.set_cons_succ]
   refine wpAnyH_tk 7 ?k6v rfl ?k6y ?k6r
   case k6y=>(intro w hSw;(try dsimp only at hSw);go_simp;try with_reducible rfl)
   try simp only[Act.put,List.getElem_toArray,List.getElem_cons_zero,List.getElem_cons_succ,List.setIfInBounds_toArray,List.set_cons_zero,List.set_cons_succ]
   refine wpAnyH_tk 8 ?k7v rfl ?k7y ?k7r
   case k7y=>(intro w hSw;(try dsimp only at hSw);go_simp;try with_reducible rfl)
   try simp only[Act.put,List.getElem_toArray,List.getElem_cons_zero,List.getElem_cons_succ,List.setIfInBounds_toArray,List.set_cons_zero,List.set_cons_succ]
   refine wpAnyH_ready (rs:=[4]) (by kernel_rfl) (by simp) ?_
   refine AllReadyH.cons rfl (fun KK hK=>?_) AllReadyH.nil
   go_simp
   obtain⟨t1,ht1,hbA,hnw⟩:∃y,t0.alloc (.cells ([.int .i64 2,.int .i64 0,.int .i64 0,.int .i64 0,.int .i64 0,.int .i64 0,.int .i64 0,.int .i64 (L p).cond,.int .i64 0,.int .i64 0,.int .i64 0]).toArray 33)=y/\Below t0.heap.size t0 y/\(∀j u,([.int .i64 2,.int .i64 0,.int .i64 0,.int .i64 0,.int .i64 0,.int .i64 0,.int .i64 0,.int .i64 (L p).cond,.int .i64 0,.int .i64 0,.int .i64 0])[j]?=some u->y.cell? ((⟨t0.heap.size,0,none⟩:Addr).add j)=some u):=⟨_,rfl,(Below.refl _ _).alloc (Nat.le_refl _) _,cells_new _ _ _⟩
   have GE:Hid (w.grownBy t1 (Value.slice aol kl cl).ownBlock):=(by rw[<-ht1];exact gr_alloc GD.out _:w.grownBy t1 (Value.slice aol kl cl).ownBlock)
   rw[ht1]
   have OE:Hid (t1.ownsRow w0.heap.size 33 11 (.slice ao1 k1 c1) k1 (cs (xs++done))):=row_belowU OD.out hbA
   have BE:Hid (Below w0.heap.size w0 t1):=BD.out.trans (hbA.mono (by have:=BD.out.size;omega))
   have CE:=hd0.below hbA
   have zt:=hbA.size
   have NW:Hid _:=hnw
   clear ht1 hbA hnw OD GD BD
   refine hK.out _ _ CE (fun hHeld=>?_)
   clear hK KK
   try simp only[Act.put,List.getElem_toArray,List.getElem_cons_zero,List.getElem_cons_succ,List.setIfInBounds_toArray,List.set_cons_zero,List.set_cons_succ]
   refine wpAnyH_ready (rs:=[5]) (by kernel_rfl) (by simp) ?_
   have HFL:Hid (∀u∈([.int .i64 2,.int .i64 0,.int .i64 0,.int .i64 0,.int .i64 0,.int .i64 0,.int .i64 0,.int .i64 (L p).cond,.int .i64 0,.int .i64 0,.int .i64 0]:List Value),u.oneCell'=true):=fun u hu=>cs_flat [(L p).put 0 0] u (by rw[cs_one,st_put HSOK.out K.out (by omega) 0 0];exact hu)
   obtain⟨v',w5,hrun,hown,hgrow,_,hat⟩:=run_append_own_at (P:=Try.prog) t1 w0.heap.size 28 28 33 iS _ 11 88 Try.underlying28 HIS.out.1 HIS.out.2.1 HIS.out.2.2.1 HIS.out.2.2.2 rfl (by decide) (.slice ao1 k1 c1) k1 (cs (xs++done)) OE.out ⟨t0.heap.size,0,none⟩ 1 1 [.int .i64 2,.int .i64 0,.int .i64 0,.int .i64 0,.int .i64 0,.int .i64 0,.int .i64 0,.int .i64 (L p).cond,.int .i64 0,.int .i64 0,.int .i64 0] rfl NW.out HFL.out (by unfold maxLen;omega) (by omega) (by have:=BE.out.size;omega)
   refine readyH_append (.tmp 36) (.tmp 40) rfl (by kernel_rfl) rfl rfl rfl hrun (gr_cl hgrow CE NB1.out) (fun hHeld2=>?_)
   try simp only[Act.put,List.getElem_toArray,List.getElem_cons_zero,List.getElem_cons_succ,List.setIfInBounds_toArray,List.set_cons_zero,List.set_cons_succ]
   have hown2:w5.ownsRow w0.heap.size 33 11 v' (k1+1) (cs (xs++done++[(L p).put 0 0])):=by
    rw[cs_app,cs_one,st_put HSOK.out K.out (by omega) 0 0];exact hown
   obtain⟨ao2,k2,c2,hv2⟩:=row_slice hown2
   subst hv2
   have HL5:Hid ((xs++done++[(L p).put 0 0]).length=k1+1):=(by rw[List.length_append,<-HK1.out];rfl:(xs++done++[(L p).put 0 0]).length=k1+1)
   have O5:Hid (w5.ownsRow w0.heap.size 33 11 (.slice ao2 k2 c2) (xs++done++[(L p).put 0 0]).length (cs (xs++done++[(L p).put 0 0]))):=(by rw[HL5.out];exact hown2:w5.ownsRow w0.heap.size 33 11 (.slice ao2 k2 c2) (xs++done++[(L p).put 0 0]).length (cs (xs++done++[(L p).put 0 0])))
   have G5:Hid (w.grownBy w5 (Value.slice aol kl cl).ownBlock):=gr_next GE.out hgrow A1.out
   have NB5:Hid ((Value.slice ao2 k2 c2).ownBlock≠some xb):=(by
    rcases hat with e|e
    ·rw[e];exact NB1.out
    ·rw[e];simp;omega:(Value.slice ao2 k2 c2).ownBlock≠some xb)
   have A5:Hid ((Value.slice ao2 k2 c2).ownBlock=(Value.slice aol kl cl).ownBlock∨∃k,(Value.slice ao2 k2 c2).ownBlock=some k/\w.heap.size<=k):=(by
    rcases hat with e|e
    ·rw[e];exact A1.out
    ·exact .inr ⟨_,e,by have:=GE.out.size;omega⟩:(Value.slice ao2 k2 c2).ownBlock=(Value.slice aol kl cl).ownBlock∨∃k,(Value.slice ao2 k2 c2).ownBlock=some k/\w.heap.size<=k)
   have B5:Hid (Below w0.heap.size w0 w5):=HB0.out.grown G5.out lw (fun k hk=>(O0.out.lt k hk).1)
   clear hown hown2 hgrow hat hrun OE GE BE NW CE hd0 HFL
   refine wpAnyH_ready (rs:=[9]) (by kernel_rfl) (by simp) ?_
   refine AllReadyH.cons rfl (fun KK hK=>?_) AllReadyH.nil
   go_simp
   have hc:=IH.out (p+1) (p+1+a) (depth+1) (.slice aoa ka ca) (by omega) (by omega) (by omega) (by have h:=HC1.out;rw[HAB.out.1]at h;exact h) R1.out w5 (.slice ao2 k2 c2) (xs++done++[(L p).put 0 0]) B5.out O5.out (by rw[haL,HL5.out];omega)
   rw[haL]at hc
   refine hc.mono ?_
   rintro e w6⟨v6,rfl,ho6,hg6,ha6⟩
   have z56:=hg6.size
   obtain⟨g6,c6,hv6⟩:=row_some2 ho6 (by simp only[List.length_append];simp;omega)
   subst hv6
   have hl6:(xs++done++[(L p).put 0 0]++aL).length=k1+1+aL.length:=by rw[List.length_append,HL5.out]
   rw[hl6]at ho6 ha6⊢
   have CL6:Cl w6 xb [.int .i64 (p:Int),.int .i64 (L p).cond,.slice aoa ka ca,.slice aob kb cb2]:=gr_cl hg6 hHeld2 NB5.out
   have O6:Hid (w6.ownsRow w0.heap.size 33 11 (.slice (some ⟨g6,0,none⟩) (k1+1+aL.length) c6) (k1+1+aL.length) (cs (xs++done++[(L p).put 0 0]++aL))):=ho6
   have G6:Hid (w.grownBy w6 (Value.slice aol kl cl).ownBlock):=gr_next G5.out hg6 A5.out
   have A6:Hid ((Value.slice (some ⟨g6,0,none⟩) (k1+1+aL.length) c6).ownBlock=(Value.slice aol kl cl).ownBlock∨∃k,(Value.slice (some ⟨g6,0,none⟩) (k1+1+aL.length) c6).ownBlock=some k/\w.heap.size<=k):=grown_at G5.out.size A5.out ha6
   have NB6:Hid (g6≠xb):=(by
    rcases ha6 with e|⟨k,e,h⟩
    ·intro e2;subst e2;exact NB5.out e.symm
    ·have:=Option.some.inj e;simp at this;have:=hHeld2.1;omega:g6≠xb)
   clear hc ho6 hg6 ha6
   go_wp2_with fail
   refine hK.out _ _ CL6 (fun hHeld3=>?_)
   clear hK KK
   try simp only[Act.put,List.getElem_toArray,List.getElem_cons_zero,List.getElem_cons_succ,List.setIfInBounds_toArray,List.set_cons_zero,List.set_cons_succ]
   refine wpAnyH_tk 10 ?kyv rfl ?kyy ?kyr
   case kyy=>(intro w hSw;(try dsimp only at hSw);go_simp;try with_reducible rfl)
   try simp only[Act.put,List.getElem_toArray,List.getElem_cons_zero,List.getElem_cons_succ,List.setIfInBounds_toArray,List.set_cons_zero]
   refine wpAnyH_done (by kernel_rfl) ?_ _
   have B6:Hid (Below w0.heap.size w0 w6):=HB0.out.grown G6.out lw (fun k hk=>(O0.out.lt k hk).1)
   have L6:Hid (g6<w6.heap.size):=(O6.out.lt g6 rfl).2
   have C6:Hid (Cl w6 xb [.int .i64 (p:Int),.int .i64 (L p).cond,.slice aoa ka ca,.slice aob kb cb2]):=hHeld3
   clear r1c r2c hHeld hHeld2 hHeld3 O5 G5 A5 B5 NB5 NB1 z56
   have l6:=L6.out
   have y3:w6.cell? ⟨xb,3,none⟩=some (.slice aob kb cb2):=C6.out.2 3 (by simp)
   have yl:=C6.out.1
   obtain⟨la,hla⟩:∃y,aL.length=y:=⟨_,rfl⟩
   have HLA:Hid (aL.length=la):=hla
   have HL6:Hid ((xs++done++[(L p).put 0 0]++aL).length=k1+1+la):=(by rw[<-hla];exact hl6:(xs++done++[(L p).put 0 0]++aL).length=k1+1+la)
   rw[hla]at O6 A6 hln2⊢
   clear hla hl6
   go_wp2_with fail
   have hc:=IH.out (p+1+a) (p+1+a+b) (depth+1) (.slice aob kb cb2) (by omega) (by omega) (by omega) (by have h:=HC2.out;rw[HAB.out.1,HAB.out.2]at h;exact h) R2.out w6 (.slice (some ⟨g6,0,none⟩) (k1+1+la) c6) (xs++done++[(L p).put 0 0]++aL) B6.out (by rw[HL6.out];exact O6.out) (by rw[hbL,HL6.out];omega)
   rw[hbL]at hc
   refine hc.mono ?_
   rintro e w7⟨v7,rfl,ho7,hg7,ha7⟩
   obtain⟨g7,c7,hv7⟩:=row_some2 ho7 (by simp only[List.length_append];simp;omega)
   subst hv7
   obtain⟨lb',hlb⟩:∃y,bL.length=y:=⟨_,rfl⟩
   have HLB:Hid (bL.length=lb'):=hlb
   have hl7:(xs++done++[(L p).put 0 0]++aL++bL).length=k1+1+la+lb':=by rw[List.length_append,HL6.out,hlb]
   rw[hl7]at ho7 ha7⊢
   rw[hlb]at hln2
   have O7:Hid (w7.ownsRow w0.heap.size 33 11 (.slice (some ⟨g7,0,none⟩) (k1+1+la+lb') c7) (k1+1+la+lb') (cs (xs++done++(L p).put 0 0::(aL++bL)))):=(by
    have h:=ho7
    rw[show xs++done++[(L p).put 0 0]++aL++bL=xs++done++(L p).put 0 0::(aL++bL)by simp]at h
    exact h:w7.ownsRow w0.heap.size 33 11 (.slice (some ⟨g7,0,none⟩) (k1+1+la+lb') c7) (k1+1+la+lb') (cs (xs++done++(L p).put 0 0::(aL++bL))))
   have G7:Hid (w.grownBy w7 (Value.slice aol kl cl).ownBlock):=gr_next G6.out hg7 A6.out
   have A7:Hid ((Value.slice (some ⟨g7,0,none⟩) (k1+1+la+lb') c7).ownBlock=(Value.slice aol kl cl).ownBlock∨∃k,(Value.slice (some ⟨g7,0,none⟩) (k1+1+la+lb') c7).ownBlock=some k/\w.heap.size<=k):=grown_at G6.out.size A6.out ha7
   have l7:=(O7.out.lt g7 rfl).2
   have f7:∀k,w7.frozen? ⟨g7,k,none⟩=false:=fun k=>O7.out.frozenAt k
   have e8:w7.cell? ⟨g7,k1*11+8,none⟩=some (.int .i64 0):=by
    rw[O7.out.cellAt _ (by omega)]
    have h:=cs_at8 (xs++done) (aL++bL) ((L p).put 0 0)
    rw[<-HK1.out]at h
    exact h
   have e9:w7.cell? ⟨g7,k1*11+9,none⟩=some (.int .i64 0):=by
    rw[O7.out.cellAt _ (by omega)]
    have h:=cs_at9 (xs++done) (aL++bL) ((L p).put 0 0)
    rw[<-HK1.out]at h
    exact h
   have O8:Hid ((w7.setCell ⟨g7,k1*11+8,none⟩ (.int .i64 (la:Int))).ownsRow w0.heap.size 33 11 (.slice (some ⟨g7,0,none⟩) (k1+1+la+lb') c7) (k1+1+la+lb') (cs (xs++done++(L p).put la 0::(aL++bL)))):=(by
    have h:=(O7.out.stored (k1*11+8) (.int .i64 (la:Int))).1
    rw[HK1.out,cs_set8]at h
    rw[HK1.out];exact h:(w7.setCell ⟨g7,k1*11+8,none⟩ (.int .i64 (la:Int))).ownsRow w0.heap.size 33 11 (.slice (some ⟨g7,0,none⟩) (k1+1+la+lb') c7) (k1+1+la+lb') (cs (xs++done++(L p).put la 0::(aL++bL))))
   have G8:Hid (w.grownBy (w7.setCell ⟨g7,k1*11+8,none⟩ (.int .i64 (la:Int))) (Value.slice aol kl cl).ownBlock):=gr_next G7.out (O7.out.stored _ _).2 A7.out
   have O9:Hid (((w7.setCell ⟨g7,k1*11+8,none⟩ (.int .i64 (la:Int))).setCell ⟨g7,k1*11+9,none⟩ (.int .i64 (lb':Int))).ownsRow w0.heap.size 33 11 (.slice (some ⟨g7,0,none⟩) (k1+1+la+lb') c7) (k1+1+la+lb') (cs (xs++done++(L p).put la lb'::(aL++bL)))):=(by
    have h:=(O8.out.stored (k1*11+9) (.int .i64 (lb':Int))).1
    rw[HK1.out,cs_set9]at h
    rw[HK1.out];exact h:((w7.setCell ⟨g7,k1*11+8,none⟩ (.int .i64 (la:Int))).setCell ⟨g7,k1*11+9,none⟩ (.int .i64 (lb':Int))).ownsRow w0.heap.size 33 11 (.slice (some ⟨g7,0,none⟩) (k1+1+la+lb') c7) (k1+1+la+lb') (cs (xs++done++(L p).put la lb'::(aL++bL))))
   have G9:Hid (w.grownBy ((w7.setCell ⟨g7,k1*11+8,none⟩ (.int .i64 (la:Int))).setCell ⟨g7,k1*11+9,none⟩ (.int .i64 (lb':Int))) (Value.slice aol kl cl).ownBlock):=gr_next G8.out (O8.out.stored _ _).2 A7.out
   clear hc ho7 hg7 ha7 hl7 hlb O7 G7 O8 G8 O6 G6 A6 B6 C6 y3 yl
   go_wp2
   go_roundw
   case rel=>
    have hl:(xs++(done++(L p).put la lb'::(aL++bL))).length=k1+1+la+lb':=by rw[HK1.out];simp[HLA.out,HLB.out];omega
    rw[show(k1:Int)+1+(la:Int)-(k1:Int)-1=(la:Int)by omega,show(k1:Int)+1+(la:Int)+(lb':Int)-((k1:Int)+1+(la:Int))=(lb':Int)by omega]
    refine⟨q+1,p+1+a+b,done++(L p).put la lb'::(aL++bL),by omega,by omega,by omega,by go_num,?_,G9.out,A7.out,?_,?_,?_⟩
    ·rw[hl,<-List.append_assoc];exact O9.out
    ·have h:=HD2.out;rw[HLA.out,HLB.out]at h;rw[<-h]
    ·have h:=HDN.out;rw[HAB.out.1,HAB.out.2]at h;exact h
    ·have h:=HC3.out;rw[HAB.out.1,HAB.out.2]at h;exact h
   case measure=>simp[intOf];omega
  ·skip
   have K:Hid ((L p).k=3):=k3
   clear k3
   obtain⟨aoa,ka,ca,hva⟩:=RepN.shape m r1
   subst hva
   obtain⟨tp,ep⟩:=st_pos HSOK.out
   obtain⟨a,ha⟩:∃x:Nat,(L p).thn.toNat=x:=⟨_,rfl⟩
   obtain⟨b,hb⟩:∃x:Nat,(L p).els.toNat=x:=⟨_,rfl⟩
   have hnt:p+1+a+b<=te:=by have:=HNT.out;omega
   have HAB:Hid ((L p).thn.toNat=a/\(L p).els.toNat=b):=⟨ha,hb⟩
   have eb0:b=0:=by have:=(st_plain HSOK.out).2 K.out;omega
   have R1:Hid (RepN L m w0 S (.slice aoa ka ca) (p+1) (p+1+a)):=(by rw[<-ha];exact r1:RepN L m w0 S (.slice aoa ka ca) (p+1) (p+1+a))
   obtain⟨aL,haL⟩:∃y,inlB B L (p+1) (p+1+a)=y:=⟨_,rfl⟩
   have HK4:¬(L p).k=4:=by rw[K.out];decide
   have HD2:Hid (done++((L p).put aL.length 0::aL)++inlB B L (p+1+a) te=all):=(by
    rw[<-HD.out,inlB_node hlt HNT.out HK4,ha,hb,eb0,haL];simp only[Nat.add_zero];rw[inlB_end (i:=p+1+a) (te:=p+1+a) (by omega)];simp:done++((L p).put aL.length 0::aL)++inlB B L (p+1+a) te=all)
   have hln2:k1+1+aL.length<=4000:=by
    have h:=hsz
    rw[<-HD2.out]at h
    rw[HK1.out]
    simp only[List.length_append,List.length_cons]at h⊢
    omega
   have t1:=ta31
   have t2:=ta32
   have t3:=ta33
   clear ha hb tp ep
   go_upto_region 17 with fail
   clear t1 t2 t3 g0
   obtain⟨u1,hu1,hb1,hc1⟩:∃y,wr.alloc (.cells #[.int .i64 (p:Int),.int .i64 (L p).cond,.slice aoa ka ca] 95)=y/\Below wr.heap.size wr y/\Cl y wr.heap.size [.int .i64 (p:Int),.int .i64 (L p).cond,.slice aoa ka ca]:=⟨_,rfl,(Below.refl _ _).alloc (Nat.le_refl _) _,Cl.new⟩
   have G2:Hid (w.grownBy u1 (Value.slice aol kl cl).ownBlock):=(by rw[<-hu1];exact gr_alloc G1.out _:w.grownBy u1 (Value.slice aol kl cl).ownBlock)
   rw[hu1]
   have O2:Hid (u1.ownsRow w0.heap.size 33 11 (.slice ao1 k1 c1) k1 (cs (xs++done))):=row_belowU O1.out hb1
   have B2:Hid (Below w0.heap.size w0 u1):=B1.out.trans (hb1.mono l1)
   have NB1:Hid ((Value.slice ao1 k1 c1).ownBlock≠some wr.heap.size):=fun e=>by have:=(O1.out.lt _ e).2;omega
   have z1:=hb1.size
   obtain⟨xb,hxb⟩:∃y,wr.heap.size=y:=⟨_,rfl⟩
   rw[hxb]at hc1 NB1 z1⊢
   have C1:Hid (Cl u1 xb [.int .i64 (p:Int),.int .i64 (L p).cond,.slice aoa ka ca]):=hc1
   have zx:=hc1.1
   have HXB:Hid (xb=wr.heap.size):=hxb.symm
   have xw:w.heap.size<=xb:=by have:=G1.out.size;omega
   clear hu1 hb1 hc1 O1 G1 hxb
   have r1c:∀w',Cl w' xb [.int .i64 (p:Int),.int .i64 (L p).cond,.slice aoa ka ca]->w'.cell? ⟨xb,1,none⟩=some (.int .i64 (L p).cond):=fun w' h=>h.2 1 (by simp)
   have r2c:∀w',Cl w' xb [.int .i64 (p:Int),.int .i64 (L p).cond,.slice aoa ka ca]->w'.cell? ⟨xb,2,none⟩=some (.slice aoa ka ca):=fun w' h=>h.2 2 (by simp)
   refine wp_region_held_drew (S:=fun w'=>Cl w' xb [.int .i64 (p:Int),.int .i64 (L p).cond,.slice aoa ka ca]) (by kernel_rfl) (C1.out.below (Below.refl _ _).drew) (fun hd0=>?_)
   have OD:Hid (u1.drew.ownsRow w0.heap.size 33 11 (.slice ao1 k1 c1) k1 (cs (xs++done))):=O2.out.drew
   have GD:Hid (w.grownBy u1.drew (Value.slice aol kl cl).ownBlock):=gr_drew G2.out
   have BD:Hid (Below w0.heap.size w0 u1.drew):=B2.out.trans ((Below.refl _ _).drew)
   have zd:xb<u1.drew.heap.size:=hd0.1
   generalize u1.drew=t0 at hd0 OD GD BD zd⊢
   clear O2 G2 B2 C1
   refine wpAnyH_tk 0 ?k8v rfl ?k8y ?k8r
   case k8y=>(intro w hSw;(try dsimp only at hSw);go_simp;try with_reducible rfl)
   try simp only[Act.put,List.getElem_toArray,List.getElem_cons_zero,List.setIfInBounds_toArray,List.set_cons_zero,List.set_cons_succ]
   refine wpAnyH_tk 1 ?k9v rfl ?k9y ?k9r
   case k9y=>(intro w hSw;(try dsimp only at hSw);go_simp;try with_reducible rfl)
   try simp only[Act.put,List.getElem_toArray,List.getElem_cons_zero,List.getElem_cons_succ,List.setIfInBounds_toArray,List.set_cons_zero,List.set_cons_succ]
   refine wpAnyH_tk 2 ?k10v rfl ?k10y ?k10r
   case k10y=>(intro w hSw;(try dsimp only at hSw);go_simp;try with_reducible rfl)
   try simp only[Act.put,List.getElem_toArray,List.getElem_cons_zero,List.getElem_cons_succ,List.setIfInBounds_toArray,List.set_cons_zero,List.set_cons_succ]
   refine wpAnyH_tk 3 ?k11v rfl ?k11y ?k11r
   case k11y=>(intro w hSw;(try dsimp only at hSw);go_simp;try with_reducible rfl)
   try simp only[Act.put,List.getElem_toArray,List.getElem_cons_zero,List.getElem_cons_succ,List.setIfInBounds_toArray,List.set_cons_zero,List.set_cons_succ]
   refine wpAnyH_tk 6 ?k12v rfl ?k12y ?k12r
   case k12y=>(intro w hSw;(try dsimp only at hSw);go_simp;try with_reducible rfl)
   try simp only[Act.put,List.getElem_toArray,List.getElem_cons_zero,List.getElem_cons_succ,List.setIfInBounds_toArray,List.set_cons_zero,List.set_cons_succ]
   refine wpAnyH_tk 7 ?k13v rfl ?k13y ?k13r
   case k13y=>(intro w hSw;(try dsimp only at hSw);go_simp;try with_reducible rfl)
   try simp only[Act.put,List.getElem_toArray,List.getElem_cons_zero,List.getElem_cons_succ,List.setIfInBounds_toArray,List.set_cons_zero,List.set_cons_succ]
   refine wpAnyH_tk 8 ?k14v rfl ?k14y ?k14r
   case k14y=>(intro w hSw;(try dsimp only at hSw);go_simp;try with_reducible rfl)
   try simp only[Act.put,List.getElem_toArray,List.getElem_cons_zero,List.getElem_cons_succ,List.setIfInBounds_toArray,List.set_cons_zero,List.set_cons_succ]
   refine wpAnyH_ready (rs:=[4]) (by kernel_rfl) (by simp) ?_
   refine AllReadyH.cons rfl (fun KK hK=>?_) AllReadyH.nil
   go_simp
   obtain⟨t1,ht1,hbA,hnw⟩:∃y,t0.alloc (.cells ([.int .i64 3,.int .i64 0,.int .i64 0,.int .i64 0,.int .i64 0,.int .i64 0,.int .i64 0,.int .i64 (L p).cond,.int .i64 0,.int .i64 0,.int .i64 0]).toArray 33)=y/\Below t0.heap.size t0 y/\(∀j u,([.int .i64 3,.int .i64 0,.int .i64 0,.int .i64 0,.int .i64 0,.int .i64 0,.int .i64 0,.int .i64 (L p).cond,.int .i64 0,.int .i64 0,.int .i64 0])[j]?=some u->y.cell? ((⟨t0.heap.size,0,none⟩:Addr).add j)=some u):=⟨_,rfl,(Below.refl _ _).alloc (Nat.le_refl _) _,cells_new _ _ _⟩
   have GE:Hid (w.grownBy t1 (Value.slice aol kl cl).ownBlock):=(by rw[<-ht1];exact gr_alloc GD.out _:w.grownBy t1 (Value.slice aol kl cl).ownBlock)
   rw[ht1]
   have OE:Hid (t1.ownsRow w0.heap.size 33 11 (.slice ao1 k1 c1) k1 (cs (xs++done))):=row_belowU OD.out hbA
   have BE:Hid (Below w0.heap.size w0 t1):=BD.out.trans (hbA.mono (by have:=BD.out.size;omega))
   have CE:=hd0.below hbA
   have zt:=hbA.size
   have NW:Hid _:=hnw
   clear ht1 hbA hnw OD GD BD
   refine hK.out _ _ CE (fun hHeld=>?_)
   clear hK KK
   try simp only[Act.put,List.getElem_toArray,List.getElem_cons_zero,List.getElem_cons_succ,List.setIfInBounds_toArray,List.set_cons_zero,List.set_cons_succ]
   refine wpAnyH_ready (rs:=[5]) (by kernel_rfl) (by simp) ?_
   have HFL:Hid (∀u∈([.int .i64 3,.int .i64 0,.int .i64 0,.int .i64 0,.int .i64 0,.int .i64 0,.int .i64 0,.int .i64 (L p).cond,.int .i64 0,.int .i64 0,.int .i64 0]:List Value),u.oneCell'=true):=fun u hu=>cs_flat [(L p).put 0 0] u (by rw[cs_one,st_put HSOK.out K.out (by omega) 0 0];exact hu)
   obtain⟨v',w5,hrun,hown,hgrow,_,hat⟩:=run_append_own_at (P:=Try.prog) t1 w0.heap.size 28 28 33 iS _ 11 88 Try.underlying28 HIS.out.1 HIS.out.2.1 HIS.out.2.2.1 HIS.out.2.2.2 rfl (by decide) (.slice ao1 k1 c1) k1 (cs (xs++done)) OE.out ⟨t0.heap.size,0,none⟩ 1 1 [.int .i64 3,.int .i64 0,.int .i64 0,.int .i64 0,.int .i64 0,.int .i64 0,.int .i64 0,.int .i64 (L p).cond,.int .i64 0,.int .i64 0,.int .i64 0] rfl NW.out HFL.out (by unfold maxLen;omega) (by omega) (by have:=BE.out.size;omega)
   refine readyH_append (.tmp 72) (.tmp 76) rfl (by kernel_rfl) rfl rfl rfl hrun (gr_cl hgrow CE NB1.out) (fun hHeld2=>?_)
   try simp only[Act.put,List.getElem_toArray,List.getElem_cons_zero,List.getElem_cons_succ,List.setIfInBounds_toArray,List.set_cons_zero,List.set_cons_succ]
   have hown2:w5.ownsRow w0.heap.size 33 11 v' (k1+1) (cs (xs++done++[(L p).put 0 0])):=by
    rw[cs_app,cs_one,st_put HSOK.out K.out (by omega) 0 0];exact hown
   obtain⟨ao2,k2,c2,hv2⟩:=row_slice hown2
   subst hv2
   have HL5:Hid ((xs++done++[(L p).put 0 0]).length=k1+1):=(by rw[List.length_append,<-HK1.out];rfl:(xs++done++[(L p).put 0 0]).length=k1+1)
   have O5:Hid (w5.ownsRow w0.heap.size 33 11 (.slice ao2 k2 c2) (xs++done++[(L p).put 0 0]).length (cs (xs++done++[(L p).put 0 0]))):=(by rw[HL5.out];exact hown2:w5.ownsRow w0.heap.size 33 11 (.slice ao2 k2 c2) (xs++done++[(L p).put 0 0]).length (cs (xs++done++[(L p).put 0 0])))
   have G5:Hid (w.grownBy w5 (Value.slice aol kl cl).ownBlock):=gr_next GE.out hgrow A1.out
   have NB5:Hid ((Value.slice ao2 k2 c2).ownBlock≠some xb):=(by
    rcases hat with e|e
    ·rw[e];exact NB1.out
    ·rw[e];simp;omega:(Value.slice ao2 k2 c2).ownBlock≠some xb)
   have A5:Hid ((Value.slice ao2 k2 c2).ownBlock=(Value.slice aol kl cl).ownBlock∨∃k,(Value.slice ao2 k2 c2).ownBlock=some k/\w.heap.size<=k):=(by
    rcases hat with e|e
    ·rw[e];exact A1.out
    ·exact .inr ⟨_,e,by have:=GE.out.size;omega⟩:(Value.slice ao2 k2 c2).ownBlock=(Value.slice aol kl cl).ownBlock∨∃k,(Value.slice ao2 k2 c2).ownBlock=some k/\w.heap.size<=k)
   have B5:Hid (Below w0.heap.size w0 w5):=HB0.out.grown G5.out lw (fun k hk=>(O0.out.lt k hk).1)
   clear hown hown2 hgrow hat hrun OE GE BE NW CE hd0 HFL
   refine wpAnyH_ready (rs:=[9]) (by kernel_rfl) (by simp) ?_
   refine AllReadyH.cons rfl (fun KK hK=>?_) AllReadyH.nil
   go_simp
   have hc:=IH.out (p+1) (p+1+a) (depth+1) (.slice aoa ka ca) (by omega) (by omega) (by omega) (by have h:=HC1.out;rw[HAB.out.1]at h;exact h) R1.out w5 (.slice ao2 k2 c2) (xs++done++[(L p).put 0 0]) B5.out O5.out (by rw[haL,HL5.out];omega)
   rw[haL]at hc
   refine hc.mono ?_
   rintro e w6⟨v6,rfl,ho6,hg6,ha6⟩
   have z56:=hg6.size
   obtain⟨g6,c6,hv6⟩:=row_some2 ho6 (by simp only[List.length_append];simp;omega)
   subst hv6
   have hl6:(xs++done++[(L p).put 0 0]++aL).length=k1+1+aL.length:=by rw[List.length_append,HL5.out]
   rw[hl6]at ho6 ha6⊢
   have CL6:Cl w6 xb [.int .i64 (p:Int),.int .i64 (L p).cond,.slice aoa ka ca]:=gr_cl hg6 hHeld2 NB5.out
   have O6:Hid (w6.ownsRow w0.heap.size 33 11 (.slice (some ⟨g6,0,none⟩) (k1+1+aL.length) c6) (k1+1+aL.length) (cs (xs++done++[(L p).put 0 0]++aL))):=ho6
   have G6:Hid (w.grownBy w6 (Value.slice aol kl cl).ownBlock):=gr_next G5.out hg6 A5.out
   have A6:Hid ((Value.slice (some ⟨g6,0,none⟩) (k1+1+aL.length) c6).ownBlock=(Value.slice aol kl cl).ownBlock∨∃k,(Value.slice (some ⟨g6,0,none⟩) (k1+1+aL.length) c6).ownBlock=some k/\w.heap.size<=k):=grown_at G5.out.size A5.out ha6
   have NB6:Hid (g6≠xb):=(by
    rcases ha6 with e|⟨k,e,h⟩
    ·intro e2;subst e2;exact NB5.out e.symm
    ·have:=Option.some.inj e;simp at this;have:=hHeld2.1;omega:g6≠xb)
   clear hc ho6 hg6 ha6
   go_wp2_with fail
   refine hK.out _ _ CL6 (fun hHeld3=>?_)
   clear hK KK
   try simp only[Act.put,List.getElem_toArray,List.getElem_cons_zero,List.getElem_cons_succ,List.setIfInBounds_toArray,List.set_cons_zero,List.set_cons_succ]
   refine wpAnyH_tk 10 ?kzv rfl ?kzy ?kzr
   case kzy=>(intro w hSw;(try dsimp only at hSw);go_simp;try with_reducible rfl)
   try simp only[Act.put,List.getElem_toArray,List.getElem_cons_zero,List.getElem_cons_succ,List.setIfInBounds_toArray,List.set_cons_zero]
   refine wpAnyH_done (by kernel_rfl) ?_ _
   have B6:Hid (Below w0.heap.size w0 w6):=HB0.out.grown G6.out lw (fun k hk=>(O0.out.lt k hk).1)
   have L6:Hid (g6<w6.heap.size):=(O6.out.lt g6 rfl).2
   clear r1c r2c hHeld hHeld2 hHeld3 O5 G5 A5 B5 NB5 NB1 z56
   have l6:=L6.out
   have f6:∀k,w6.frozen? ⟨g6,k,none⟩=false:=fun k=>O6.out.frozenAt k
   have e8:w6.cell? ⟨g6,k1*11+8,none⟩=some (.int .i64 0):=by
    rw[O6.out.cellAt _ (by omega),List.append_assoc,List.append_assoc]
    have h:=cs_at8 (xs++done) aL ((L p).put 0 0)
    rw[<-HK1.out]at h
    rw[<-List.append_assoc];exact h
   obtain⟨la,hla⟩:∃y,aL.length=y:=⟨_,rfl⟩
   have HLA:Hid (aL.length=la):=hla
   rw[hla]at O6 A6 hln2⊢
   have O7:Hid ((w6.setCell ⟨g6,k1*11+8,none⟩ (.int .i64 (la:Int))).ownsRow w0.heap.size 33 11 (.slice (some ⟨g6,0,none⟩) (k1+1+la) c6) (k1+1+la) (cs (xs++done++(L p).put la 0::aL))):=(by
    have h:=(O6.out.stored (k1*11+8) (.int .i64 (la:Int))).1
    rw[List.append_assoc (xs++done),List.singleton_append,HK1.out,cs_set8]at h
    rw[HK1.out];exact h:(w6.setCell ⟨g6,k1*11+8,none⟩ (.int .i64 (la:Int))).ownsRow w0.heap.size 33 11 (.slice (some ⟨g6,0,none⟩) (k1+1+la) c6) (k1+1+la) (cs (xs++done++(L p).put la 0::aL)))
   have G7:Hid (w.grownBy (w6.setCell ⟨g6,k1*11+8,none⟩ (.int .i64 (la:Int))) (Value.slice aol kl cl).ownBlock):=gr_next G6.out (O6.out.stored _ _).2 A6.out
   clear hla O6 G6
   go_wp2
   go_roundw
   case rel=>
    have hl:(xs++(done++(L p).put la 0::aL)).length=k1+1+la:=by rw[HK1.out];simp[HLA.out];omega
    rw[show(k1:Int)+1+(la:Int)-(k1:Int)-1=(la:Int)by omega]
    refine⟨q+1,p+1+a,done++(L p).put la 0::aL,by omega,by omega,by omega,by go_num,?_,G7.out,A6.out,?_,?_,?_⟩
    ·rw[hl,<-List.append_assoc];exact O7.out
    ·have h:=HD2.out;rw[HLA.out]at h;rw[<-h]
    ·have h:=HDN.out;rw[HAB.out.1,HAB.out.2,eb0,Nat.add_zero]at h;exact h
    ·have h:=HC3.out;rw[HAB.out.1,HAB.out.2,eb0,Nat.add_zero]at h;exact h
   case measure=>simp[intOf];omega
  ·have K:Hid ((L p).k=4):=k4
   clear k4
   obtain⟨x0,x1⟩:=st_call HSOK.out K.out
   obtain⟨x,hx⟩:∃x:Nat,(L p).proc=(x:Int):=⟨(L p).proc.toNat,by omega⟩
   have hv:=HV.out p hip hlt K.out
   obtain⟨y2,y3⟩:=st_flat HSOK.out (.inr K.out)
   have hnode:inlB B L p te=B x++inlB B L (p+1) te:=by
    rw[inlB_call hlt HNT.out K.out,y2,y3,hx];rfl
   have HE:Hid (p+1+(L p).thn.toNat+(L p).els.toNat=p+1):=(by rw[y2,y3];rfl:p+1+(L p).thn.toNat+(L p).els.toNat=p+1)
   have HD2:Hid (done++B x++inlB B L (p+1) te=all):=(by rw[<-HD.out,hnode,List.append_assoc]:done++B x++inlB B L (p+1) te=all)
   have hln2:k1+(B x).length+(inlB B L (p+1) te).length<=4000:=by rw[hnode,List.length_append]at hln;omega
   rw[hx]at g0 x1 hv
   rw[Int.toNat_natCast]at hv
   have xn:x<np:=by omega
   have xn':(x:Int)<(np:Int):=by omega
   have t1:=ta41
   have t2:=ta42
   have t3:=ta43
   have t4:=ta44
   clear x0 hx y2 y3 hnode
   go_upto_region 21 with fail
   clear t1 t2 t3 t4 g0
   obtain⟨u1,hu1,hb1,hc1⟩:∃y,wr.alloc (.cells #[.int .i64 (x:Int)] 97)=y/\Below wr.heap.size wr y/\Cl y wr.heap.size [.int .i64 (x:Int)]:=⟨_,rfl,(Below.refl _ _).alloc (Nat.le_refl _) _,Cl.new⟩
   have G2:Hid (w.grownBy u1 (Value.slice aol kl cl).ownBlock):=(by rw[<-hu1];exact gr_alloc G1.out _:w.grownBy u1 (Value.slice aol kl cl).ownBlock)
   rw[hu1]
   have O2:Hid (u1.ownsRow w0.heap.size 33 11 (.slice ao1 k1 c1) k1 (cs (xs++done))):=row_belowU O1.out hb1
   have B2:Hid (Below w0.heap.size w0 u1):=B1.out.trans (hb1.mono l1)
   have z1:=hb1.size
   have zx:=hc1.1
   have c0':u1.cell? ⟨wr.heap.size,0,none⟩=some (.int .i64 (x:Int)):=hc1.2 0 (by simp)
   have cb':u1.cell? ⟨bb,x,none⟩=some (bv x):=(B2.out.cell (p:=⟨bb,x,none⟩) lbb).trans (by have:=HBB.out.cell xn;rwa [Nat.zero_add]at this)
   have lb2:bb<u1.heap.size:=by omega
   have V2:Hid (u1.ownsRow 0 33 11 (bv x) (B x).length (cs (B x))):=row_belowU hv B2.out
   clear hu1 hb1 hc1 O1 G1 hv
   rcases V2.out.2 with⟨e1,e2⟩|⟨gv,cv,cur,e1,_⟩
   ·rw[e1]at cb'
    have hnil:B x=[]:=List.length_eq_zero_iff.1 e2
    have HNIL:Hid (B x=[]):=hnil
    clear e1 e2 hnil V2
    go_wp2_with(first|(at_builtin;refine wpList_append_own_none rfl _ _ 28 rfl w0.heap.size 33 iS 11 Try.underlying28 HIS.out.1 (.slice ao1 k1 c1) k1 (cs (xs++done)) rfl O2.out rfl ?_)|go_in)
    go_wp2
    go_roundw
    case rel=>
     refine⟨q+1,p+1,done,by omega,by omega,by omega,by go_num,?_,G2.out,A1.out,?_,?_,?_⟩
     ·rw[<-HK1.out];exact O2.out
     ·have h:=HD2.out;rw[HNIL.out,List.append_nil]at h;exact h
     ·have h:=HDN.out;rw[HE.out]at h;exact h
     ·have h:=HC3.out;rw[HE.out]at h;exact h
    case measure=>simp[intOf];omega
   ·rw[e1]at cb'
    have VV:Hid (u1.ownsRow 0 33 11 (.slice (some ⟨gv,0,none⟩) (B x).length cv) (B x).length (cs (B x))):=(by have:=V2.out;rwa [e1]at this:u1.ownsRow 0 33 11 (.slice (some ⟨gv,0,none⟩) (B x).length cv) (B x).length (cs (B x)))
    clear e1 V2
    obtain⟨m2,hm2⟩:∃y,(B x).length=y:=⟨_,rfl⟩
    have HM2:Hid ((B x).length=m2):=hm2
    rw[hm2]at cb' hln2 VV
    clear hm2
    go_wp2_with(first|(at_builtin;refine wpList_append_own_at _ rfl _ _ 28 rfl w0.heap.size 33 iS _ 11 88 Try.underlying28 HIS.out.1 HIS.out.2.1 HIS.out.2.2.1 HIS.out.2.2.2 rfl (by decide) (.slice ao1 k1 c1) k1 (cs (xs++done)) rfl O2.out ⟨gv,0,none⟩ m2 cv (cs (B x)) rfl (by rw[cs_len,HM2.out]) (row_news VV.out) (cs_flat _) ?c3 ?c4 ?c5 ?_)|go_in)
    case c3=>unfold maxLen;omega
    case c4=>omega
    case c5=>omega
    intro v' w5 hown hgrow _ hat
    rw[<-cs_app]at hown
    have G5:Hid (w.grownBy w5 (Value.slice aol kl cl).ownBlock):=gr_next G2.out hgrow A1.out
    have A5:Hid (v'.ownBlock=(Value.slice aol kl cl).ownBlock∨∃k,v'.ownBlock=some k/\w.heap.size<=k):=(by
     rcases hat with e|e
     ·rw[e];exact A1.out
     ·exact .inr ⟨_,e,G2.out.size⟩:v'.ownBlock=(Value.slice aol kl cl).ownBlock∨∃k,v'.ownBlock=some k/\w.heap.size<=k)
    have O5:Hid (w5.ownsRow w0.heap.size 33 11 v' (k1+m2) (cs (xs++done++B x))):=hown
    obtain⟨ao8,k8,c8,rfl⟩:=row_slice hown
    clear hown hgrow hat c0' cb' O2 G2
    go_wp2
    go_roundw
    case rel=>
     have hl:(xs++(done++B x)).length=k1+m2:=by rw[HK1.out,<-HM2.out];simp;omega
     refine⟨q+1,p+1,done++B x,by omega,by omega,by omega,by go_num,?_,G5.out,A5.out,HD2.out,?_,?_⟩
     ·rw[hl,<-List.append_assoc];exact O5.out
     ·have h:=HDN.out;rw[HE.out]at h;exact h
     ·have h:=HC3.out;rw[HE.out]at h;exact h
    case measure=>simp[intOf];omega
end Go.Proofs.Ytplnpgohdgialaa
