import Derived.Test.YtiphbmhoifggiaaGreatDoorPsReg
import Derived.Test.YtiphbmhoifggiaaGreatDoorUnitCheck
set_option maxHeartbeats 32000000
set_option maxRecDepth 20000
namespace Go.Proofs.YtiphbmhoifggiaaGreatDoor
open Go.RowKit
theorem RepN.shape{L:Nat->SV}{w:World}{S:Nat->Prop}:∀(m:Nat){v:Value}{i te:Nat},RepN L m w S v i te->∃(ao:Option Addr)(k c:Nat),v=.slice ao k c
 |0,_,_,_,h=>⟨_,_,_,h.2⟩
 |_+1,_,_,_,⟨_,hr,_⟩=>row_slice hr.1
theorem ps11(v:Value)(w:World):(Instr.typeAssert (.iface 120 v) 118 120 true).run Tryz.prog w=.ok (.tuple #[v,.bool true]) w:=by kernel_rfl
theorem ps21(v:Value)(w:World):(Instr.typeAssert (.iface 123 v) 118 120 true).run Tryz.prog w=.ok (.tuple #[.agg #[.int .i64 0,.int .i64 0,.int .i64 0,.int .i64 0,.int .i64 0,.int .i64 0,.int .i64 0],.bool false]) w:=by kernel_rfl
theorem ps22(v:Value)(w:World):(Instr.typeAssert (.iface 123 v) 118 123 true).run Tryz.prog w=.ok (.tuple #[v,.bool true]) w:=by kernel_rfl
theorem ps31(v:Value)(w:World):(Instr.typeAssert (.iface 126 v) 118 120 true).run Tryz.prog w=.ok (.tuple #[.agg #[.int .i64 0,.int .i64 0,.int .i64 0,.int .i64 0,.int .i64 0,.int .i64 0,.int .i64 0],.bool false]) w:=by kernel_rfl
theorem ps32(v:Value)(w:World):(Instr.typeAssert (.iface 126 v) 118 123 true).run Tryz.prog w=.ok (.tuple #[.agg #[.int .i64 0,.int .i64 0,.slice none 0 0,.slice none 0 0],.bool false]) w:=by kernel_rfl
theorem ps33(v:Value)(w:World):(Instr.typeAssert (.iface 126 v) 118 126 true).run Tryz.prog w=.ok (.tuple #[v,.bool true]) w:=by kernel_rfl
theorem ps41(v:Value)(w:World):(Instr.typeAssert (.iface 128 v) 118 120 true).run Tryz.prog w=.ok (.tuple #[.agg #[.int .i64 0,.int .i64 0,.int .i64 0,.int .i64 0,.int .i64 0,.int .i64 0,.int .i64 0],.bool false]) w:=by kernel_rfl
theorem ps42(v:Value)(w:World):(Instr.typeAssert (.iface 128 v) 118 123 true).run Tryz.prog w=.ok (.tuple #[.agg #[.int .i64 0,.int .i64 0,.slice none 0 0,.slice none 0 0],.bool false]) w:=by kernel_rfl
theorem ps43(v:Value)(w:World):(Instr.typeAssert (.iface 128 v) 118 126 true).run Tryz.prog w=.ok (.tuple #[.agg #[.int .i64 0,.int .i64 0,.slice none 0 0],.bool false]) w:=by kernel_rfl
theorem ps44(v:Value)(w:World):(Instr.typeAssert (.iface 128 v) 118 128 true).run Tryz.prog w=.ok (.tuple #[v,.bool true]) w:=by kernel_rfl
def AddP(w0:World)(pb sb:Nat)(L:Nat->SV)(i te:Nat)(tv:Value):Prop:=
 ∀(w:World)(v:Value)(t:List UInt8),Below pb w0 w->PW pb sb v t w->t.length+(te-i)*600<=40000000->
  Calls Tryz.prog 32 #[.pointer (some ⟨pb,0,none⟩),tv] w fun e w'=>e=.returned (.tuple #[])/\∃v',PW pb sb v' (t++prB L i te) w'/\PF pb w w'
theorem PW.put{pb sb:Nat}{v v':Value}{t x:List UInt8}{u u5:World}{n:Nat}(h:PW pb sb v t u)(hb:Below (pb+1) u u5)(hk:Lib.OthersKept 5 none u u5)(ho:u5.ownsRow (pb+1) 5 1 v' n (Lib.byteCells (t++x))):PW pb sb v' (t++x) (u5.setCell ⟨pb,0,none⟩ v')/\PF pb u (u5.setCell ⟨pb,0,none⟩ v')/\u5.cell? ⟨pb,0,none⟩=some v/\u5.frozen? ⟨pb,0,none⟩=false/\u5.cell? ⟨pb,1,none⟩=some (.pointer (some ⟨sb,0,none⟩)):=by
 have hc:∀i,u5.cell? ⟨pb,i,none⟩=u.cell? ⟨pb,i,none⟩:=fun i=>hb.cell (p:=⟨pb,i,none⟩) (by show pb<_;omega)
 have hf:∀i,u5.frozen? ⟨pb,i,none⟩=u.frozen? ⟨pb,i,none⟩:=fun i=>hb.frozen (p:=⟨pb,i,none⟩) (by show pb<_;omega)
 have hn:n=(t++x).length:=by have:=ho.1;rw[Lib.byteCells_length]at this;omega
 subst hn;have q:=hb.mono (Nat.le_succ pb);refine⟨⟨by simp[go_sem,hc,h.C],by simp[go_sem,hc,h.D],by simpa using Nat.lt_of_lt_of_le h.lt hb.size,fun i=>by simpa using(hf i).trans (h.F i),ownsRow_setCell_below ho (by show pb<_;omega) _⟩,⟨?_,?_⟩,(hc 0).trans h.C,(hf 0).trans (h.F 0),(hc 1).trans h.D⟩
 ·exact⟨q.os,q.tape,q.output,by simpa using q.size,fun k hk=>(Below.heap_setCell u5 ⟨pb,0,none⟩ v' k (by show k≠pb;omega)).trans (q.block k hk)⟩
 ·exact Lib.OthersKept.setCell (b:=pb) (fun k o h1 _ h3=>hk k o h1 (by simp) h3) ⟨pb,0,none⟩ rfl v'
theorem st_noels{s:SV}{procs:Int}(h:stOK s procs=true)(k:s.k=3):s.els=0:=by
 unfold stOK at h;rw[if_neg (by omega),if_neg (by omega),if_pos k]at h;have:=of_decide_eq_true h;omega
theorem addLine_new(pb sb:Nat)(v:Value)(t:List UInt8)(xs:List ByteArray)(u:World)(h:PW pb sb v t u)(hN:xs.length<=100)(hl:(lnT xs).length<=1000000)(ht:t.length<=100000000):
 Calls Tryz.prog 27 #[.pointer (some ⟨pb,0,none⟩),.slice (some ⟨u.heap.size,0,none⟩) xs.length xs.length] (u.alloc (.cells (xs.map Value.string).toArray 9)) fun e w'=>e=.returned (.tuple #[])/\∃v',PW pb sb v' (t++lnT xs) w'/\PF pb u w':=
 (addLine_any pb sb v t u.heap.size xs.length xs _ (h.below ((Below.refl _ _).alloc (Nat.le_refl _) _)) (fields_new u xs) (by simp) hN (Nat.le_refl _) hl ht).mono fun e w'⟨h0,v',h1,h2⟩=>⟨h0,v',h1,(PF.of_below ((Below.refl _ _).alloc (Nat.le_refl _) _) (Nat.le_of_lt h.lt)).trans h2⟩
theorem rep_len{L:Nat->SV}{w:World}{S:Nat->Prop}{ao:Option Addr}{k c i te:Nat}:∀(m:Nat),RepN L m w S (.slice ao k c) i te->(0<k↔i<te)
 |0,h=>by
  obtain⟨h1,h2⟩:=h;have:=(Value.slice.inj h2).2.1;omega
 |m+1,⟨ns,hr,hl,_⟩=>by
  have hk:k=ns.length:=by
   rcases hr.1.2 with⟨e,e2⟩|⟨g,cap,cur,e,_⟩
   ·have:=(Value.slice.inj e).2.1;omega
   ·exact(Value.slice.inj e).2.1
  rw[hk,hl];by_cases h:i<te
  ·rw[tops_more h];simp[h]
  ·rw[tops_end h];simp[h]
theorem cnd_le(c:Int):(cndL c).length<=2:=cnd_len c
theorem addChoiceP_any(w0:World)(pb sb:Nat)(L:Nat->SV)(p a b:Nat)(a0 cond:Int)(aoa:Option Addr)(ka ca:Nat)(aob:Option Addr)(kb cb:Nat)(h1:AddP w0 pb sb L (p+1) (p+1+a) (.slice aoa ka ca))(h2:AddP w0 pb sb L (p+1+a) (p+1+a+b) (.slice aob kb cb))(tb:TB pb w0)(w:World)(v:Value)(t xl yl:List UInt8)(hB:Below pb w0 w)(hP:PW pb sb v t w)(hx:prB L (p+1) (p+1+a)=xl)(hy:prB L (p+1+a) (p+1+a+b)=yl)(c1:1<=cond)(c4:cond<=4)(hs:t.length+(1+a+b)*600<=40000000)(lx:xl.length<=a*600)(ly:yl.length<=b*600):
 Calls Tryz.prog 56 #[.pointer (some ⟨pb,0,none⟩),.agg #[.int .i64 a0,.int .i64 cond,.slice aoa ka ca,.slice aob kb cb]] w fun e w'=>e=.returned (.tuple #[])/\∃v',PW pb sb v' (t++([105,102,32]++cndL cond++[10]++xl++(if 0<kb then elseT++yl else[])++endT)) w'/\PF pb w w':=by
 have H1:Hid (AddP w0 pb sb L (p+1) (p+1+a) (.slice aoa ka ca)):=h1;have H2:Hid (AddP w0 pb sb L (p+1+a) (p+1+a+b) (.slice aob kb cb)):=h2;have HXL:Hid (prB L (p+1) (p+1+a)=xl):=hx;have HYL:Hid (prB L (p+1+a) (p+1+a+b)=yl):=hy;have HB:Hid (Below pb w0 w):=hB;have H:Hid (PW pb sb v t w):=hP;have TBH:Hid (TB pb w0):=tb;have lt:=hP.lt;have hcl:=cnd_le cond;have HCL:Hid ((cndL cond).length<=2):=hcl;have wc:IntKind.i64.wrap (cond-1)=cond-1:=by rw[IntKind.wrap_i64];omega
 obtain⟨R,hR⟩:∃z,(t++([105,102,32]++cndL cond++[10]++xl++(if 0<kb then elseT++yl else[])++endT))=z:=⟨_,rfl⟩
 rw[hR];have HR:Hid ((t++([105,102,32]++cndL cond++[10]++xl++(if 0<kb then elseT++yl else[])++endT))=R):=hR;clear h1 h2 hx hy hB hP tb hcl hR;go_enter Tryz.func56,Tryz.ntmps56;go_upto_region 1 with fail;obtain⟨u,hu,hbu,hcu⟩:∃y,w.alloc (.cells #[.int .i64 a0,.int .i64 cond,.slice aoa ka ca,.slice aob kb cb] 123)=y/\Below w.heap.size w y/\y.heap[w.heap.size]?=some (.cells #[.int .i64 a0,.int .i64 cond,.slice aoa ka ca,.slice aob kb cb] 123):=⟨_,rfl,(Below.refl _ _).alloc (Nat.le_refl _) _,heap_new _ _⟩
 rw[hu];obtain⟨xb,hxb⟩:∃y,w.heap.size=y:=⟨_,rfl⟩
 rw[hxb]at hcu⊢;have XU:Hid (u.heap[xb]?=some (.cells #[.int .i64 a0,.int .i64 cond,.slice aoa ka ca,.slice aob kb cb] 123)):=hcu;have BU:Hid (Below w.heap.size w u):=hbu;have lxb:pb<xb:=by omega
 clear hu hbu hcu hxb;have q1:=heap_cell XU.out 1;go_wp2_with fail;refine(cond_word cond u c1 c4 (TBH.out.a _ (HB.out.trans (BU.out.mono (Nat.le_of_lt lt))))).mono ?_;rintro e u1⟨rfl,hb1⟩;have B1:Hid (Below w.heap.size w u1):=BU.out.trans (hb1.mono BU.out.size);have X1:Hid (u1.heap[xb]?=some (.cells #[.int .i64 a0,.int .i64 cond,.slice aoa ka ca,.slice aob kb cb] 123)):=(hb1.block xb (Array.getElem?_eq_some_iff.1 XU.out).1).trans XU.out;have F1:Hid (PF pb w u1):=PF.of_below B1.out (Nat.le_of_lt lt);clear hb1 q1 XU BU;go_wp2_with fail;refine(addLine_new pb sb v t [bs [105,102],bs (cndL cond)] u1 (H.out.below B1.out) (by simp) (by rw[lnT2];have:=HCL.out;simp;omega) (by omega)).mono ?_;rintro e y1⟨rfl,v1,n1,n2⟩;rw[lnT2]at n1;obtain⟨t1,ht1⟩:∃z,t++([105,102]++[32]++cndL cond++[10])=z:=⟨_,rfl⟩
 rw[ht1]at n1;have HT1:Hid (t++([105,102]++[32]++cndL cond++[10])=t1):=ht1;have l1:t1.length<=t.length+6:=by rw[<-ht1];have:=HCL.out;simp;omega
 have P1:Hid (PW pb sb v1 t1 y1):=n1;have G1:Hid (PF pb w y1):=F1.out.trans n2;have X2:Hid (y1.heap[xb]?=some (.cells #[.int .i64 a0,.int .i64 cond,.slice aoa ka ca,.slice aob kb cb] 123)):=n2.cl X1.out (by omega) (by decide);clear n1 n2 ht1 B1 F1 X1;have q2:=heap_cell X2.out 2;go_wp2_with fail;refine(H1.out y1 v1 t1 (HB.out.trans G1.out.b) P1.out (by rw[show p+1+a-(p+1)=a by omega];omega)).mono ?_;rintro e y2⟨rfl,v2,n1,n2⟩;rw[HXL.out]at n1;have P2:Hid (PW pb sb v2 (t1++xl) y2):=n1;have G2:Hid (PF pb w y2):=G1.out.trans n2;have X3:Hid (y2.heap[xb]?=some (.cells #[.int .i64 a0,.int .i64 cond,.slice aoa ka ca,.slice aob kb cb] 123)):=n2.cl X2.out (by omega) (by decide);clear n1 n2 q2 P1 G1 X2;have q3:=heap_cell X3.out 3;by_cases hkb:0<kb
 ·have hkb':(0:Int)<(kb:Int):=by omega
  go_wp2_with fail;refine(addLine_new pb sb _ (t1++xl) [bs [101,108,115,101]] y2 P2.out (by simp) (by rw[lnT1];simp) (by simp only[List.length_append];omega)).mono ?_;rintro e y3⟨rfl,v3,n1,n2⟩;rw[lnT1]at n1;have P3:Hid (PW pb sb v3 (t1++xl++elseT) y3):=n1;have G3:Hid (PF pb w y3):=G2.out.trans n2;have X4:Hid (y3.heap[xb]?=some (.cells #[.int .i64 a0,.int .i64 cond,.slice aoa ka ca,.slice aob kb cb] 123)):=n2.cl X3.out (by omega) (by decide);clear n1 n2 q3 P2 G2 X3;have q3:=heap_cell X4.out 3;go_wp2_with fail;refine(H2.out y3 v3 (t1++xl++elseT) (HB.out.trans G3.out.b) P3.out (by rw[show p+1+a+b-(p+1+a)=b by omega];simp only[List.length_append,elseT,List.length_cons,List.length_nil];omega)).mono ?_;rintro e y4⟨rfl,v4,n1,n2⟩;rw[HYL.out]at n1;have P4:Hid (PW pb sb v4 (t1++xl++elseT++yl) y4):=n1;have G4:Hid (PF pb w y4):=G3.out.trans n2;clear n1 n2 q3 P3 G3 X4;go_wp2_with fail;refine(addLine_new pb sb _ (t1++xl++elseT++yl) [bs [101,110,100]] y4 P4.out (by simp) (by rw[lnT1];simp) (by simp only[List.length_append];simp only[elseT,List.length_cons,List.length_nil];omega)).mono ?_;rintro e y9⟨rfl,v9,n1,n2⟩;rw[lnT1]at n1;have P9:Hid (PW pb sb v9 R y9):=(by
   rw[<-HR.out];rw[<-HT1.out]at n1;simp only[List.append_assoc,List.cons_append,List.nil_append,endT,hkb,if_true]at n1⊢;exact n1:PW pb sb v9 R y9)
  have G9:Hid (PF pb w y9):=G4.out.trans n2;clear n1 n2;go_wp2_with fail;go_end0;first
   |exact⟨rfl,v9,P9.out,G9.out⟩
   |exact⟨rfl,⟨v9,P9.out⟩,G9.out⟩
 have hkb':¬(0:Int)<(kb:Int):=by omega
 go_wp2_with fail;refine(addLine_new pb sb _ (t1++xl) [bs [101,110,100]] y2 P2.out (by simp) (by rw[lnT1];simp) (by simp only[List.length_append];omega)).mono ?_;rintro e y9⟨rfl,v9,n1,n2⟩;rw[lnT1]at n1;have P9:Hid (PW pb sb v9 R y9):=(by
  rw[<-HR.out];rw[<-HT1.out]at n1;simp only[List.append_assoc,List.cons_append,List.nil_append,endT,hkb,if_false]at n1⊢;exact n1:PW pb sb v9 R y9)
 have G9:Hid (PF pb w y9):=G2.out.trans n2;clear n1 n2;go_wp2_with fail;go_end0;first
  |exact⟨rfl,v9,P9.out,G9.out⟩
  |exact⟨rfl,⟨v9,P9.out⟩,G9.out⟩
structure PS(pb sb xb:Nat)(v:Value)(p:Nat)(s:SV)(w:World):Prop where
 c0:w.cell? ⟨pb,0,none⟩=some v
 c1:w.cell? ⟨pb,1,none⟩=some (.pointer (some ⟨sb,0,none⟩))
 x:w.heap[xb]?=some (.cells #[.int .i64 (p:Int),.int .i64 s.op,.int .i64 s.d,.int .i64 s.a,.int .i64 s.b,.int .i64 s.imm,.int .i64 s.h] 120)
theorem tops_size(L:Nat->SV):∀(m i te:Nat),te-i<=m->(tops L i te).length<=te-i:=by
 intro m;induction m with
 |zero=>intro i te h;rw[tops_end (by omega)];simp
 |succ m ih=>
  intro i te h;by_cases hl:i<te
  ·rw[tops_more hl]
   have:=ih (i+1+(L i).thn.toNat+(L i).els.toNat) te (by omega);simp only[List.length_cons];omega
  ·rw[tops_end hl];simp
theorem addP_go(w0:World)(pb sb nb ob mb:Nat)(L:Nat->SV)(m i te:Nat)(me procs deep depth:Int)(tv:Value)(S:Nat->Prop)(hlb:w0.heap.size<=pb)(sc:SC w0 sb nb ob mb 1)(ls:sb<pb)(lnb:nb<pb)(lmb:mb<pb)(tb:TB pb w0)
 (hr:RepN L (m+1) w0 S tv i te)(hit:i<=te)(hpr:procs<=100)(hte:te<=500)(hck:(chk L me procs deep i te depth).1=0)
 (ih:∀i' te' d v,i<i'->i'<=te'->te'<=te->(chk L me procs deep i' te' d).1=0->RepN L m w0 S v i' te'->AddP w0 pb sb L i' te' v):AddP w0 pb sb L i te tv:=by
 intro w v0 t hb0 hP hsz
 obtain⟨ns,hrow,hxl,hx⟩:=hr
 obtain⟨aot,kt,ct,htv⟩:=row_slice hrow.1
 subst htv
 have HROW:Hid (RowS w0 S (.slice aot kt ct) ns):=hrow
 have HXL:Hid (ns.length=(tops L i te).length):=hxl
 have HX:Hid _:=hx
 have HCK:Hid ((chk L me procs deep i te depth).1=0):=hck
 have IH:Hid _:=ih
 have HB0:Hid (Below pb w0 w):=hb0
 have P0:Hid (PW pb sb v0 t w):=hP
 have HSC:Hid (SC w0 sb nb ob mb 1):=sc
 have TBH:Hid (TB pb w0):=tb
 have HPR:Hid (procs<=100):=hpr
 obtain⟨all,hall⟩:∃x,prB L i te=x:=⟨_,rfl⟩
 rw[hall]
 obtain⟨R,hR⟩:∃x,t++all=x:=⟨_,rfl⟩
 rw[hR]
 have HR:Hid (t++all=R):=hR
 have HALL:Hid (prB L i te=all):=hall
 have hkt:kt=ns.length:=by
  rcases hrow.1.2 with⟨e,e2⟩|⟨g,cap,cur,e,_⟩
  ·have:=(Value.slice.inj e).2.1;omega
  ·exact(Value.slice.inj e).2.1
 have hk2:kt<=500:=by rw[hkt,hxl];exact Nat.le_trans (tops_size L _ i te (Nat.le_refl _)) (by omega)
 have HKT:Hid (kt=ns.length):=hkt
 clear hrow hxl hx hck ih hb0 hP hall hkt sc tb hpr hR
 go_enter Tryz.func32,Tryz.ntmps32
 go_wp2
 go_loopw [12](fun iv wr=>∃(q p:Nat)(v:Value)(done:List UInt8),q<=kt/\i<=p/\p<=te/\iv=.int .i64 (q:Int)/\PW pb sb v (t++done) wr/\PF pb w wr/\done.length<=(p-i)*600/\done++prB L p te=all/\(tops L i te).drop q=tops L p te/\(chk L me procs deep p te depth).1=0)(fun iv _=>kt-(intOf iv).toNat)
 case atStart=>exact⟨0,i,v0,[],Nat.zero_le _,Nat.le_refl _,hit,rfl,by rw[List.append_nil];exact P0.out,PF.refl _ _,by simp,HALL.out,by simp,HCK.out⟩
 case round=>
  obtain⟨q,p,v,done,hq,hip,hpt,rfl,hp,hs,hdl,hd,hdr,hc⟩:=hrel
  have P1:Hid (PW pb sb v (t++done) wr):=hp
  have G1:Hid (PF pb w wr):=hs
  have HD:Hid (done++prB L p te=all):=hd
  have HDR:Hid ((tops L i te).drop q=tops L p te):=hdr
  have HK:Hid ((chk L me procs deep p te depth).1=0):=hc
  have B1:Hid (Below pb w0 wr):=HB0.out.trans hs.b
  have ltw:=hp.lt
  have hln:(t++done).length+(te-p)*600<=40000000:=by
   simp only[List.length_append]
   omega
  clear hp hs hd hdr hc
  by_cases hlt:p<te
  rotate_left
  ·have hqn:q=kt:=by
    have h:=congrArg List.length HDR.out
    rw[List.length_drop,<-HXL.out,<-HKT.out,tops_end hlt]at h
    simp at h;omega
   have hqx':¬(q:Int)<(kt:Int):=by omega
   have P9:Hid (PW pb sb v R wr):=(by
    have h:=HD.out
    rw[prB_end hlt,List.append_nil]at h
    rw[<-HR.out,<-h]
    exact P1.out:PW pb sb v R wr)
   clear hlt hln
   go_wp2_with fail
   go_end0
   first
    |exact⟨rfl,v,P9.out,G1.out⟩
    |exact⟨rfl,⟨v,P9.out⟩,G1.out⟩
  have hqx:q<kt:=by
   have h:=congrArg List.length HDR.out
   rw[List.length_drop,<-HXL.out,<-HKT.out,tops_more hlt]at h
   simp at h;omega
  have hqx':(q:Int)<(kt:Int):=by omega
  obtain⟨gt,ctt,htt⟩:=row_some2 HROW.out.1 (by rw[<-HKT.out];omega)
  obtain⟨rfl,hz,rfl⟩:=Value.slice.inj htt
  clear hz
  have HR2:Hid (w0.ownsRow 0 118 1 (.slice (some ⟨gt,0,none⟩) ns.length ct) ns.length ns):=(by have:=HROW.out.1;rwa [HKT.out]at this:w0.ownsRow 0 118 1 (.slice (some ⟨gt,0,none⟩) ns.length ct) ns.length ns)
  obtain⟨x,hxq⟩:∃x,ns[q]?=some x:=⟨ns[q]'(by rw[<-HKT.out];exact hqx),by simp[<-HKT.out,hqx]⟩
  have hpq:(tops L i te)[q]?=some p:=by
   have h:=congrArg (fun l=>l[0]?) HDR.out
   simp only[tops_more hlt,List.getElem?_drop,Nat.add_zero,List.getElem?_cons_zero]at h
   exact h
  have hdn:(tops L i te).drop (q+1)=tops L (p+1+(L p).thn.toNat+(L p).els.toNat) te:=by
   have h:=congrArg (List.drop 1) HDR.out
   rw[List.drop_drop,tops_more hlt]at h
   simpa[Nat.add_comm]using h
  have lgt:gt<pb:=by have:=(HROW.out.1.lt gt rfl).2;omega
  have g0:wr.cell? ⟨gt,q,none⟩=some x:=by
   rw[B1.out.cell (p:=⟨gt,q,none⟩) lgt,HR2.out.cellAt q (by rw[<-HKT.out];omega)]
   exact hxq
  obtain⟨sok,hnt,k1',k2',k3'⟩:=chk_next HK.out hlt
  have HSOK:Hid (stOK (L p) procs=true):=sok
  have HC1:Hid _:=k1'
  have HC2:Hid _:=k2'
  have HC3:Hid _:=k3'
  have HDN:Hid _:=hdn
  have HNT:Hid (p+1+(L p).thn.toNat+(L p).els.toNat<=te):=hnt
  have hcase:=HX.out q x p hxq hpq
  obtain⟨a,ha⟩:∃x:Nat,(L p).thn.toNat=x:=⟨_,rfl⟩
  obtain⟨b,hb⟩:∃x:Nat,(L p).els.toNat=x:=⟨_,rfl⟩
  have hnt':p+1+a+b<=te:=by omega
  have HAB:Hid ((L p).thn.toNat=a/\(L p).els.toNat=b):=⟨ha,hb⟩
  have HD3:Hid ((tops L i te).drop (q+1)=tops L (p+1+a+b) te):=(by rw[hdn,ha,hb]:(tops L i te).drop (q+1)=tops L (p+1+a+b) te)
  have HC4:Hid ((chk L me procs deep (p+1+a+b) te depth).1=0):=(by have h:=k3';rw[ha,hb]at h;exact h:(chk L me procs deep (p+1+a+b) te depth).1=0)
  have HC5:Hid ((chk L me procs deep (p+1) (p+1+a) (depth+1)).1=0):=(by have h:=k1';rw[ha]at h;exact h:(chk L me procs deep (p+1) (p+1+a) (depth+1)).1=0)
  have HC6:Hid ((chk L me procs deep (p+1+a) (p+1+a+b) (depth+1)).1=0):=(by have h:=k2';rw[ha,hb]at h;exact h:(chk L me procs deep (p+1+a) (p+1+a+b) (depth+1)).1=0)
  have NXT:Hid (∀y:List UInt8,prB L p te=y++prB L (p+1+a+b) te->(done++y)++prB L (p+1+a+b) te=all):=(fun y hy=>by rw[List.append_assoc,<-hy];exact HD.out:∀y:List UInt8,prB L p te=y++prB L (p+1+a+b) te->(done++y)++prB L (p+1+a+b) te=all)
  clear sok k1' k2' k3' hdn hnt hxq hpq htt HDR HK ha hb HDN HC1 HC2 HC3
  rcases hcase with⟨k1,rfl⟩|⟨k2,v1,v2,rfl,r1,r2⟩|⟨k3,v1,rfl,r1⟩|⟨k4,rfl⟩
  ·have K:Hid ((L p).k=1):=k1
   obtain⟨w1',w2',w3',w4',w5',w6',w7'⟩:=ins_small (st_ins HSOK.out k1).1
   have HY:Hid (done++(insT (L p)++[10])++prB L (p+1+a+b) te=all):=NXT.out (insT (L p)++[10]) (by rw[prB_1 hlt HNT.out k1,HAB.out.1,HAB.out.2])
   have hll:=line_len (d:=1) (st_ins HSOK.out k1).1
   clear k1
   have t1:=ps11
   go_upto_region 6 with fail
   clear t1 g0
   obtain⟨u1,hu1,hb1,hc1⟩:∃x,wr.alloc (.cells #[.int .i64 (p:Int),.int .i64 (L p).op,.int .i64 (L p).d,.int .i64 (L p).a,.int .i64 (L p).b,.int .i64 (L p).imm,.int .i64 (L p).h] 120)=x/\Below wr.heap.size wr x/\x.heap[wr.heap.size]?=some (.cells #[.int .i64 (p:Int),.int .i64 (L p).op,.int .i64 (L p).d,.int .i64 (L p).a,.int .i64 (L p).b,.int .i64 (L p).imm,.int .i64 (L p).h] 120):=⟨_,rfl,(Below.refl _ _).alloc (Nat.le_refl _) _,heap_new _ _⟩
   rw[hu1]
   obtain⟨xb,hxb⟩:∃y,wr.heap.size=y:=⟨_,rfl⟩
   rw[hxb]at hc1⊢
   have lxb:pb<xb:=by omega
   have P2:Hid (PW pb sb v (t++done) u1):=P1.out.below hb1
   have G2:Hid (PF pb w u1):=G1.out.trans (PF.of_below hb1 (Nat.le_of_lt ltw))
   have ltu:pb<u1.heap.size:=P2.out.lt
   have X1:Hid (u1.heap[xb]?=some (.cells #[.int .i64 (p:Int),.int .i64 (L p).op,.int .i64 (L p).d,.int .i64 (L p).a,.int .i64 (L p).b,.int .i64 (L p).imm,.int .i64 (L p).h] 120)):=hc1
   clear hu1 hb1 hc1 hxb
   obtain⟨aov,kv,cv,hvv⟩:=row_slice P2.out.O
   subst hvv
   have TD:PS pb sb xb (.slice aov kv cv) p (L p) u1.drew:=⟨P2.out.C,P2.out.D,X1.out⟩
   have bd:Below u1.heap.size u1 u1.drew:=(Below.refl _ _).drew
   have r0:∀w',PS pb sb xb (.slice aov kv cv) p (L p) w'->w'.cell? ⟨pb,0,none⟩=some (.slice aov kv cv):=fun w' h=>h.c0
   have r1:∀w',PS pb sb xb (.slice aov kv cv) p (L p) w'->w'.cell? ⟨pb,1,none⟩=some (.pointer (some ⟨sb,0,none⟩)):=fun w' h=>h.c1
   have x1:∀w',PS pb sb xb (.slice aov kv cv) p (L p) w'->w'.cell? ⟨xb,1,none⟩=some (.int .i64 (L p).op):=fun w' h=>heap_cell h.x 1
   have x2:∀w',PS pb sb xb (.slice aov kv cv) p (L p) w'->w'.cell? ⟨xb,2,none⟩=some (.int .i64 (L p).d):=fun w' h=>heap_cell h.x 2
   have x3:∀w',PS pb sb xb (.slice aov kv cv) p (L p) w'->w'.cell? ⟨xb,3,none⟩=some (.int .i64 (L p).a):=fun w' h=>heap_cell h.x 3
   have x4:∀w',PS pb sb xb (.slice aov kv cv) p (L p) w'->w'.cell? ⟨xb,4,none⟩=some (.int .i64 (L p).b):=fun w' h=>heap_cell h.x 4
   have x5:∀w',PS pb sb xb (.slice aov kv cv) p (L p) w'->w'.cell? ⟨xb,5,none⟩=some (.int .i64 (L p).imm):=fun w' h=>heap_cell h.x 5
   have x6:∀w',PS pb sb xb (.slice aov kv cv) p (L p) w'->w'.cell? ⟨xb,6,none⟩=some (.int .i64 (L p).h):=fun w' h=>heap_cell h.x 6
   refine wp_region_L (T:=fun w'=>PS pb sb xb (.slice aov kv cv) p (L p) w') (s:=14) (by kernel_rfl) TD (fun hHeld=>?_)
   clear TD
   generalize u1.drew=t0 at hHeld bd⊢
   have P3:Hid (PW pb sb (.slice aov kv cv) (t++done) t0):=P2.out.below bd
   have G3:Hid (PF pb w t0):=G2.out.trans (PF.of_below bd (Nat.le_of_lt ltu))
   have lt0:pb<t0.heap.size:=P3.out.lt
   clear bd
   refine wpAnyL_tk 0 ?k1v rfl ?k1y ?k1r
   case k1y=>(intro w hSw;(try dsimp only at hSw);go_simp;try with_reducible rfl)
   try simp only[Act.put,List.getElem_toArray,List.getElem_cons_zero,List.setIfInBounds_toArray,List.set_cons_zero,List.set_cons_succ]
   refine wpAnyL_tk 1 ?k2v rfl ?k2y ?k2r
   case k2y=>(intro w hSw;(try dsimp only at hSw);go_simp;try with_reducible rfl)
   try simp only[Act.put,List.getElem_toArray,List.getElem_cons_zero,List.getElem_cons_succ,List.setIfInBounds_toArray,List.set_cons_zero,List.set_cons_succ]
   refine wpAnyL_tk 2 ?k3v rfl ?k3y ?k3r
   case k3y=>(intro w hSw;(try dsimp only at hSw);go_simp;try with_reducible rfl)
   try simp only[Act.put,List.getElem_toArray,List.getElem_cons_zero,List.getElem_cons_succ,List.setIfInBounds_toArray,List.set_cons_zero,List.set_cons_succ]
   refine wpAnyL_tk 3 ?k4v rfl ?k4y ?k4r
   case k4y=>(intro w hSw;(try dsimp only at hSw);go_simp;try with_reducible rfl)
   try simp only[Act.put,List.getElem_toArray,List.getElem_cons_zero,List.getElem_cons_succ,List.setIfInBounds_toArray,List.set_cons_zero,List.set_cons_succ]
   refine wpAnyL_tk 4 ?k5v rfl ?k5y ?k5r
   case k5y=>(intro w hSw;(try dsimp only at hSw);go_simp;try with_reducible rfl)
   try simp only[Act.put,List.getElem_toArray,List.getElem_cons_zero,List.getElem_cons_succ,List.setIfInBounds_toArray,List.set_cons_zero,List.set_cons_succ]
   refine wpAnyL_tk 5 ?k6v rfl ?k6y ?k6r
   case k6y=>(intro w hSw;(try dsimp only at hSw);go_simp;try with_reducible rfl)
   try simp only[Act.put,List.getElem_toArray,List.getElem_cons_zero,List.getElem_cons_succ,List.setIfInBounds_toArray,List.set_cons_zero,List.set_cons_succ]
   refine wpAnyL_tk 6 ?k7v rfl ?k7y ?k7r
   case k7y=>(intro w hSw;(try dsimp only at hSw);go_simp;try with_reducible rfl)
   try simp only[Act.put,List.getElem_toArray,List.getElem_cons_zero,List.getElem_cons_succ,List.setIfInBounds_toArray,List.set_cons_zero,List.set_cons_succ]
   refine wpAnyL_tk 7 ?k8v rfl ?k8y ?k8r
   case k8y=>(intro w hSw;(try dsimp only at hSw);go_simp;try with_reducible rfl)
   try simp only[Act.put,List.getElem_toArray,List.getElem_cons_zero,List.getElem_cons_succ,List.setIfInBounds_toArray,List.set_cons_zero,List.set_cons_succ]
   refine wpAnyL_tk 8 ?k9v rfl ?k9y ?k9r
   case k9y=>(intro w hSw;(try dsimp only at hSw);go_simp;try with_reducible rfl)
   try simp only[Act.put,List.getElem_toArray,List.getElem_cons_zero,List.getElem_cons_succ,List.setIfInBounds_toArray,List.set_cons_zero,List.set_cons_succ]
   refine wpAnyL_tk 9 ?k10v rfl ?k10y ?k10r
   case k10y=>(intro w hSw;(try dsimp only at hSw);go_simp;try with_reducible rfl)
   try simp only[Act.put,List.getElem_toArray,List.getElem_cons_zero,List.getElem_cons_succ,List.setIfInBounds_toArray,List.set_cons_zero,List.set_cons_succ]
   refine wpAnyL_tk 10 ?k11v rfl ?k11y ?k11r
   case k11y=>(intro w hSw;(try dsimp only at hSw);go_simp;try with_reducible rfl)
   try simp only[Act.put,List.getElem_toArray,List.getElem_cons_zero,List.getElem_cons_succ,List.setIfInBounds_toArray,List.set_cons_zero,List.set_cons_succ]
   refine wpAnyL_call (i:=11) rfl (by kernel_rfl) (fun KK hK=>?_)
   go_simp
   have B3:Hid (Below pb w0 t0):=HB0.out.trans G3.out.b
   refine(addIns_kept (pb+1) (t++done).length (.slice aov kv cv) (t++done) sb nb ob mb 1 (L p).op (L p).d (L p).a (L p).b (L p).imm (L p).h t0 (HSC.out.below B3.out ls lnb lmb) (.inr rfl) w1' w2' lt0 (by omega) (by omega) (by omega) P3.out.O (by omega) (by omega) (by omega) (by omega) (by omega) (by omega) (fun w' hw=>TBH.out.p w' (B3.out.trans (hw.mono (Nat.le_succ pb))))).mono ?_
   rintro e t1⟨vq,nq,rfl,ho,_,hbq,hkq⟩
   obtain⟨n1,n2,n3,n4,n5⟩:=P3.out.put hbq hkq ho
   obtain⟨aoq,kq,cq,hvq⟩:=row_slice ho
   subst hvq
   have T1:PS pb sb xb (.slice aov kv cv) p (L p) t1:=⟨n3,n5,hkq xb _ hHeld.x (by simp) (fun c fz e=>absurd (Obj.cells.inj e).2.1 (by decide))⟩
   have P9:Hid (PW pb sb (.slice aoq kq cq) (t++(done++(insT (L p)++[10]))) (t1.setCell ⟨pb,0,none⟩ (.slice aoq kq cq))):=(by
    have h:=n1
    rw[List.append_assoc]at h
    have e9:(lineS 1 (L p).op (L p).d (L p).a (L p).b (L p).imm (L p).h++⟨#[10]⟩).data.toList=insT (L p)++[10]:=by
     unfold insT
     simp
    rw[e9]at h
    exact h:PW pb sb (.slice aoq kq cq) (t++(done++(insT (L p)++[10]))) (t1.setCell ⟨pb,0,none⟩ (.slice aoq kq cq)))
   have G9:Hid (PF pb w (t1.setCell ⟨pb,0,none⟩ (.slice aoq kq cq))):=G3.out.trans n2
   show KK _ _
   refine hK.out _ _ T1 (fun hHeld1=>?_)
   clear hK KK n1 n2 n5 ho hbq hkq P2 G2 X1 P3 G3 B3
   try simp only[Act.put,List.getElem_toArray,List.getElem_cons_zero,List.getElem_cons_succ,List.setIfInBounds_toArray,List.set_cons_zero,List.set_cons_succ]
   refine wpAnyL_tkT 12 ?k12v rfl ?k12y ?k12r
   case k12y=>(intro w hSw;(try dsimp only at hSw);go_simp;try with_reducible rfl)
   try simp only[Act.put,List.getElem_toArray,List.getElem_cons_zero,List.getElem_cons_succ,List.setIfInBounds_toArray,List.set_cons_zero,List.set_cons_succ]
   refine wpAnyL_tk 13 ?k13v rfl ?k13y ?k13r
   case k13y=>(intro w hSw;(try dsimp only at hSw);go_simp;try with_reducible rfl)
   try simp only[Act.put,List.getElem_toArray,List.getElem_cons_zero,List.getElem_cons_succ,List.setIfInBounds_toArray,List.set_cons_zero,List.set_cons_succ]
   clear hHeld hHeld1 T1 r0 r1 x1 x2 x3 x4 x5 x6
   refine wpAnyL_store rfl (by kernel_rfl) (by kernel_rfl) (fun KK hK=>?_)
   go_simp
   refine hK.out _ _ ?_
   clear hK KK n3 n4
   have hdz:(done++(insT (L p)++[10])).length<=(p+1+a+b-i)*600:=by
    have:(insT (L p)).length<=530:=hll
    simp only[List.length_append,List.length_cons,List.length_nil]
    omega
   generalize t1.setCell ⟨pb,0,none⟩ (.slice aoq kq cq)=u at P9 G9⊢
   clear hll
   go_wp2
   go_roundw
   case rel=>exact⟨q+1,p+1+a+b,_,done++(insT (L p)++[10]),by omega,by omega,by omega,by go_num,P9.out,G9.out,hdz,HY.out,HD3.out,HC4.out⟩
   case measure=>simp[intOf];omega
  ·have K:Hid ((L p).k=2):=k2
   obtain⟨aoa,ka,ca,hva⟩:=RepN.shape m r1
   subst hva
   obtain⟨aob,kb,cb,hvb⟩:=RepN.shape m r2
   subst hvb
   rw[HAB.out.1]at r1 r2
   rw[HAB.out.2]at r2
   have hkb:=rep_len m r2
   have H1:Hid (AddP w0 pb sb L (p+1) (p+1+a) (.slice aoa ka ca)):=IH.out (p+1) (p+1+a) (depth+1) _ (by omega) (by omega) (by omega) HC5.out r1
   have H2:Hid (AddP w0 pb sb L (p+1+a) (p+1+a+b) (.slice aob kb cb)):=IH.out (p+1+a) (p+1+a+b) (depth+1) _ (by omega) (by omega) (by omega) HC6.out r2
   have hcd:=st_cnd HSOK.out (.inl k2)
   obtain⟨xl,hxl⟩:∃y,prB L (p+1) (p+1+a)=y:=⟨_,rfl⟩
   obtain⟨yl,hyl⟩:∃y,prB L (p+1+a) (p+1+a+b)=y:=⟨_,rfl⟩
   have HXX:Hid (prB L (p+1) (p+1+a)=xl):=hxl
   have HYY:Hid (prB L (p+1+a) (p+1+a+b)=yl):=hyl
   obtain⟨Y,hY⟩:∃y,([105,102,32]++cndL (L p).cond++[10]++xl++(if 0<kb then elseT++yl else[])++endT)=y:=⟨_,rfl⟩
   have HY0:Hid (([105,102,32]++cndL (L p).cond++[10]++xl++(if 0<kb then elseT++yl else[])++endT)=Y):=hY
   have hnode:prB L p te=Y++prB L (p+1+a+b) te:=by
    have hels:(0<(L p).els)=(0<kb):=by
     have:=HAB.out.2
     exact propext ⟨fun h=>hkb.2 (by omega),fun h=>by have:=hkb.1 h;omega⟩
    rw[prB_c hlt HNT.out (.inl k2),HAB.out.1,HAB.out.2,hxl,hyl,<-hY]
    unfold hdT
    rw[if_neg (by omega)]
    simp only[hels]
   have HY:Hid (done++Y++prB L (p+1+a+b) te=all):=NXT.out Y hnode
   have hlx:xl.length<=a*600:=by
    have:=prB_len HPR.out _ (p+1) (p+1+a) (depth+1) (Nat.le_refl _) (by omega) HC5.out
    rw[hxl]at this;omega
   have hly:yl.length<=b*600:=by
    have:=prB_len HPR.out _ (p+1+a) (p+1+a+b) (depth+1) (Nat.le_refl _) (by omega) HC6.out
    rw[hyl]at this;omega
   have hyz:Y.length<=(1+a+b)*600:=by
    have:=cnd_le (L p).cond
    rw[<-hY]
    split<;>simp only[List.length_append,List.length_cons,List.length_nil,elseT,endT]<;>omega
   clear r1 r2 k2 hxl hyl hY hnode hkb
   have t1:=ps21
   have t2:=ps22
   go_upto_region 9 with fail
   clear t1 t2 g0
   obtain⟨u1,hu1,hb1,hc1⟩:∃x,wr.alloc (.cells #[.int .i64 (p:Int),.int .i64 (L p).cond,.slice aoa ka ca,.slice aob kb cb] 123)=x/\Below wr.heap.size wr x/\Cl x wr.heap.size [.int .i64 (p:Int),.int .i64 (L p).cond,.slice aoa ka ca,.slice aob kb cb]:=⟨_,rfl,(Below.refl _ _).alloc (Nat.le_refl _) _,Cl.new⟩
   rw[hu1]
   have P2:Hid (PW pb sb v (t++done) u1):=P1.out.below hb1
   have G2:Hid (PF pb w u1):=G1.out.trans (PF.of_below hb1 (Nat.le_of_lt ltw))
   have B2:Hid (Below pb w0 u1):=HB0.out.trans G2.out.b
   have zx:=hc1.1
   have c0':u1.cell? ⟨wr.heap.size,0,none⟩=some (.int .i64 (p:Int)):=hc1.2 0 (by simp)
   have c1':u1.cell? ⟨wr.heap.size,1,none⟩=some (.int .i64 (L p).cond):=hc1.2 1 (by simp)
   have c2':u1.cell? ⟨wr.heap.size,2,none⟩=some (.slice aoa ka ca):=hc1.2 2 (by simp)
   have c3':u1.cell? ⟨wr.heap.size,3,none⟩=some (.slice aob kb cb):=hc1.2 3 (by simp)
   clear hu1 hb1 hc1
   go_wp2_with fail
   refine(addChoiceP_any w0 pb sb L p a b (p:Int) (L p).cond aoa ka ca aob kb cb H1.out H2.out TBH.out u1 v (t++done) xl yl B2.out P2.out HXX.out HYY.out hcd.1 hcd.2 (by omega) hlx hly).mono ?_
   rintro e u2⟨rfl,v9,n1,n2⟩
   rw[HY0.out,List.append_assoc]at n1
   have P3:Hid (PW pb sb v9 (t++(done++Y)) u2):=n1
   have G3:Hid (PF pb w u2):=G2.out.trans n2
   have hdz:(done++Y).length<=(p+1+a+b-i)*600:=by simp only[List.length_append];omega
   clear n1 n2 c0' c1' c2' c3' P2 G2 B2 hlx hly hyz
   go_wp2
   go_roundw
   case rel=>exact⟨q+1,p+1+a+b,v9,done++Y,by omega,by omega,by omega,by go_num,P3.out,G3.out,hdz,HY.out,HD3.out,HC4.out⟩
   case measure=>simp[intOf];omega
  ·have K:Hid ((L p).k=3):=k3
   obtain⟨aoa,ka,ca,hva⟩:=RepN.shape m r1
   subst hva
   rw[HAB.out.1]at r1
   have eb0:b=0:=by have:=st_noels HSOK.out k3;have:=HAB.out.2;omega
   have H1:Hid (AddP w0 pb sb L (p+1) (p+1+a) (.slice aoa ka ca)):=IH.out (p+1) (p+1+a) (depth+1) _ (by omega) (by omega) (by omega) HC5.out r1
   have hcd:=st_cnd HSOK.out (.inr k3)
   obtain⟨xl,hxl⟩:∃y,prB L (p+1) (p+1+a)=y:=⟨_,rfl⟩
   have HXX:Hid (prB L (p+1) (p+1+a)=xl):=hxl
   have hnode:prB L p te=([119,104,105,108,101,32]++cndL (L p).cond++[10]++xl++endT)++prB L (p+1+a+b) te:=by
    rw[prB_c hlt HNT.out (.inr k3),HAB.out.1,HAB.out.2,hxl]
    unfold hdT
    rw[if_pos k3,if_neg (by have:=st_noels HSOK.out k3;omega),List.append_nil]
   obtain⟨Y,hY⟩:∃y,([119,104,105,108,101,32]++cndL (L p).cond++[10]++xl++endT)=y:=⟨_,rfl⟩
   have HY0:Hid (([119,104,105,108,101,32]++cndL (L p).cond++[10]++xl++endT)=Y):=hY
   have HY:Hid (done++Y++prB L (p+1+a+b) te=all):=NXT.out Y (by rw[hnode,hY])
   have hlx:xl.length<=a*600:=by
    have:=prB_len HPR.out _ (p+1) (p+1+a) (depth+1) (Nat.le_refl _) (by omega) HC5.out
    rw[hxl]at this;omega
   have hcl:=cnd_le (L p).cond
   have HCL:Hid ((cndL (L p).cond).length<=2):=hcl
   have hyz:Y.length<=(1+a+b)*600:=by
    rw[<-hY]
    simp only[List.length_append,List.length_cons,List.length_nil,endT];omega
   have wcd:IntKind.i64.wrap ((L p).cond-1)=(L p).cond-1:=by rw[IntKind.wrap_i64];omega
   clear r1 k3 hxl hY hnode hcl
   have t1:=ps31
   have t2:=ps32
   have t3:=ps33
   go_upto_region 12 with fail
   clear t1 t2 t3 g0
   obtain⟨u1,hu1,hb1,hc1⟩:∃x,wr.alloc (.cells #[.int .i64 (p:Int),.int .i64 (L p).cond,.slice aoa ka ca] 126)=x/\Below wr.heap.size wr x/\x.heap[wr.heap.size]?=some (.cells #[.int .i64 (p:Int),.int .i64 (L p).cond,.slice aoa ka ca] 126):=⟨_,rfl,(Below.refl _ _).alloc (Nat.le_refl _) _,heap_new _ _⟩
   rw[hu1]
   obtain⟨xb,hxb⟩:∃y,wr.heap.size=y:=⟨_,rfl⟩
   rw[hxb]at hc1⊢
   have lxb:pb<xb:=by omega
   have P2:Hid (PW pb sb v (t++done) u1):=P1.out.below hb1
   have G2:Hid (PF pb w u1):=G1.out.trans (PF.of_below hb1 (Nat.le_of_lt ltw))
   have ltu:pb<u1.heap.size:=P2.out.lt
   have X1:Hid (u1.heap[xb]?=some (.cells #[.int .i64 (p:Int),.int .i64 (L p).cond,.slice aoa ka ca] 126)):=hc1
   have c1':=heap_cell hc1 1
   clear hu1 hb1 hc1 hxb
   go_wp2_with fail
   refine(cond_word (L p).cond u1 hcd.1 hcd.2 (TBH.out.a _ (HB0.out.trans G2.out.b))).mono ?_
   rintro e u2⟨rfl,hb2⟩
   have P3:Hid (PW pb sb v (t++done) u2):=P2.out.below hb2
   have G3:Hid (PF pb w u2):=G2.out.trans (PF.of_below hb2 (Nat.le_of_lt ltu))
   have X2:Hid (u2.heap[xb]?=some (.cells #[.int .i64 (p:Int),.int .i64 (L p).cond,.slice aoa ka ca] 126)):=(hb2.block xb (Array.getElem?_eq_some_iff.1 X1.out).1).trans X1.out
   clear hb2 P2 G2 X1 c1'
   go_wp2_with fail
   refine(addLine_new pb sb v (t++done) [bs [119,104,105,108,101],bs (cndL (L p).cond)] u2 P3.out (by simp) (by rw[lnT2];have:=HCL.out;simp;omega) (by omega)).mono ?_
   rintro e y1⟨rfl,v1,n1,n2⟩
   rw[lnT2]at n1
   obtain⟨t1,ht1⟩:∃z,t++done++([119,104,105,108,101]++[32]++cndL (L p).cond++[10])=z:=⟨_,rfl⟩
   rw[ht1]at n1
   have HT1:Hid (t++done++([119,104,105,108,101]++[32]++cndL (L p).cond++[10])=t1):=ht1
   have l1:t1.length<=(t++done).length+9:=by rw[<-ht1];have:=HCL.out;simp;omega
   have P4:Hid (PW pb sb v1 t1 y1):=n1
   have G4:Hid (PF pb w y1):=G3.out.trans n2
   have X3:Hid (y1.heap[xb]?=some (.cells #[.int .i64 (p:Int),.int .i64 (L p).cond,.slice aoa ka ca] 126)):=n2.cl X2.out (by omega) (by decide)
   have c2':=heap_cell X3.out 2
   clear n1 n2 ht1 P3 G3 X2
   go_wp2_with fail
   refine(H1.out y1 v1 t1 (HB0.out.trans G4.out.b) P4.out (by rw[show p+1+a-(p+1)=a by omega];omega)).mono ?_
   rintro e y2⟨rfl,v2,n1,n2⟩
   rw[HXX.out]at n1
   have P5:Hid (PW pb sb v2 (t1++xl) y2):=n1
   have G5:Hid (PF pb w y2):=G4.out.trans n2
   clear n1 n2 c2' P4 G4 X3
   go_wp2_with fail
   refine(addLine_new pb sb v2 (t1++xl) [bs [101,110,100]] y2 P5.out (by simp) (by rw[lnT1];simp) (by simp only[List.length_append]at l1⊢;omega)).mono ?_
   rintro e y9⟨rfl,v9,n1,n2⟩
   rw[lnT1]at n1
   have P9:Hid (PW pb sb v9 (t++(done++Y)) y9):=(by
    rw[<-HT1.out]at n1
    rw[<-HY0.out]
    simp only[List.append_assoc,List.cons_append,List.nil_append,endT]at n1⊢
    exact n1:PW pb sb v9 (t++(done++Y)) y9)
   have G9:Hid (PF pb w y9):=G5.out.trans n2
   have hdz:(done++Y).length<=(p+1+a+b-i)*600:=by simp only[List.length_append];omega
   clear n1 n2 P5 G5 hlx hyz l1
   go_wp2
   go_roundw
   case rel=>exact⟨q+1,p+1+a+b,v9,done++Y,by omega,by omega,by omega,by go_num,P9.out,G9.out,hdz,HY.out,HD3.out,HC4.out⟩
   case measure=>simp[intOf];omega
  ·have K:Hid ((L p).k=4):=k4
   obtain⟨y2,y3⟩:=st_flat HSOK.out (.inr k4)
   have ea:a=0:=by have:=HAB.out.1;omega
   have eb:b=0:=by have:=HAB.out.2;omega
   have hpc:=st_call HSOK.out k4
   have hpn:(L p).proc.natAbs<10000000000000000:=by have:=HPR.out;omega
   have hlc:=callT_len HSOK.out k4 HPR.out
   have HY:Hid (done++callT (L p)++prB L (p+1+a+b) te=all):=NXT.out (callT (L p)) (by rw[prB_4 hlt HNT.out k4,HAB.out.1,HAB.out.2])
   have HLN:Hid (lnT [bs [99,97,108,108],bs (Lib.itoa (L p).proc)]=callT (L p)):=(by rw[lnT2];unfold callT;simp only[List.cons_append,List.nil_append]:lnT [bs [99,97,108,108],bs (Lib.itoa (L p).proc)]=callT (L p))
   clear k4 y2 y3 hpc
   have t1:=ps41
   have t2:=ps42
   have t3:=ps43
   have t4:=ps44
   go_upto_region 17 with fail
   clear t1 t2 t3 t4 g0
   obtain⟨u1,hu1,hb1,hc1⟩:∃x,wr.alloc (.cells #[.int .i64 (L p).proc] 128)=x/\Below wr.heap.size wr x/\Cl x wr.heap.size [.int .i64 (L p).proc]:=⟨_,rfl,(Below.refl _ _).alloc (Nat.le_refl _) _,Cl.new⟩
   rw[hu1]
   have P2:Hid (PW pb sb v (t++done) u1):=P1.out.below hb1
   have G2:Hid (PF pb w u1):=G1.out.trans (PF.of_below hb1 (Nat.le_of_lt ltw))
   have ltu:pb<u1.heap.size:=P2.out.lt
   have zx:=hc1.1
   have c0':u1.cell? ⟨wr.heap.size,0,none⟩=some (.int .i64 (L p).proc):=hc1.2 0 (by simp)
   clear hu1 hb1 hc1
   go_wp2_with fail
   refine(digitsOf_any (L p).proc hpn u1 (TBH.out.p _ (HB0.out.trans G2.out.b))).mono ?_
   rintro e u2⟨rfl,hb2⟩
   have P3:Hid (PW pb sb v (t++done) u2):=P2.out.below hb2
   have G3:Hid (PF pb w u2):=G2.out.trans (PF.of_below hb2 (Nat.le_of_lt ltu))
   clear hb2 P2 G2 c0'
   go_wp2_with fail
   refine(addLine_new pb sb v (t++done) [bs [99,97,108,108],bs (Lib.itoa (L p).proc)] u2 P3.out (by simp) (by rw[HLN.out];omega) (by omega)).mono ?_
   rintro e y9⟨rfl,v9,n1,n2⟩
   rw[HLN.out,List.append_assoc]at n1
   have P9:Hid (PW pb sb v9 (t++(done++callT (L p))) y9):=n1
   have G9:Hid (PF pb w y9):=G3.out.trans n2
   have hdz:(done++callT (L p)).length<=(p+1+a+b-i)*600:=by simp only[List.length_append];omega
   clear n1 n2 P3 G3 hlc
   go_wp2
   go_roundw
   case rel=>exact⟨q+1,p+1+a+b,v9,done++callT (L p),by omega,by omega,by omega,by go_num,P9.out,G9.out,hdz,HY.out,HD3.out,HC4.out⟩
   case measure=>simp[intOf];omega
end Go.Proofs.YtiphbmhoifggiaaGreatDoor
