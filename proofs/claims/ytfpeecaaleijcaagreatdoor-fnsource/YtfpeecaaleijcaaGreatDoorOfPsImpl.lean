import Derived.Test.YtfpeecaaleijcaaGreatDoorOfCl
import Derived.Test.YtfpeecaaleijcaaGreatDoorOfPsReg
import Derived.Test.YtfpeecaaleijcaaGreatDoorOfUnitImpl
set_option maxHeartbeats 32000000
set_option maxRecDepth 20000
namespace Go.Proofs.YtfpeecaaleijcaaGreatDoor
open Go.RowKit
variable {w:World}
theorem Dg.shape{L:Nat->SV}{S:Nat->Prop}:∀(m:Nat){v:Value}{i te:Nat},Dg L m w S v i te->∃(ao:Option Addr)(k c:Nat),v=.slice ao k c
 |0,_,_,_,h=>⟨_,_,_,h.2⟩
 |_+1,_,_,_,⟨_,hr,_⟩=>Cw hr.1
theorem iL(v:Value)(w:World):(Instr.typeAssert (.iface 114 v) 112 114 true).run Tryz.prog w=.ok (.tuple #[v,.bool true]) w:=by kernel_rfl
theorem gY(v:Value)(w:World):(Instr.typeAssert (.iface 117 v) 112 114 true).run Tryz.prog w=.ok (.tuple #[.agg #[Vi 0,Vi 0,Vi 0,Vi 0,Vi 0,Vi 0,Vi 0],.bool false]) w:=by kernel_rfl
theorem gW(v:Value)(w:World):(Instr.typeAssert (.iface 117 v) 112 117 true).run Tryz.prog w=.ok (.tuple #[v,.bool true]) w:=by kernel_rfl
theorem gU(v:Value)(w:World):(Instr.typeAssert (.iface 120 v) 112 114 true).run Tryz.prog w=.ok (.tuple #[.agg #[Vi 0,Vi 0,Vi 0,Vi 0,Vi 0,Vi 0,Vi 0],.bool false]) w:=by kernel_rfl
theorem gm(v:Value)(w:World):(Instr.typeAssert (.iface 120 v) 112 117 true).run Tryz.prog w=.ok (.tuple #[.agg #[Vi 0,Vi 0,.slice none 0 0,.slice none 0 0],.bool false]) w:=by kernel_rfl
theorem gu(v:Value)(w:World):(Instr.typeAssert (.iface 120 v) 112 120 true).run Tryz.prog w=.ok (.tuple #[v,.bool true]) w:=by kernel_rfl
theorem gQ(v:Value)(w:World):(Instr.typeAssert (.iface 122 v) 112 114 true).run Tryz.prog w=.ok (.tuple #[.agg #[Vi 0,Vi 0,Vi 0,Vi 0,Vi 0,Vi 0,Vi 0],.bool false]) w:=by kernel_rfl
theorem iE(v:Value)(w:World):(Instr.typeAssert (.iface 122 v) 112 117 true).run Tryz.prog w=.ok (.tuple #[.agg #[Vi 0,Vi 0,.slice none 0 0,.slice none 0 0],.bool false]) w:=by kernel_rfl
theorem iA(v:Value)(w:World):(Instr.typeAssert (.iface 122 v) 112 120 true).run Tryz.prog w=.ok (.tuple #[.agg #[Vi 0,Vi 0,.slice none 0 0],.bool false]) w:=by kernel_rfl
theorem gT(v:Value)(w:World):(Instr.typeAssert (.iface 122 v) 112 122 true).run Tryz.prog w=.ok (.tuple #[v,.bool true]) w:=by kernel_rfl
def Nb(w0:World)(pb sb:Nat)(L:Nat->SV)(i te:Nat)(tv:Value):Prop:=
 ∀(w:World)(v:Value)(t:List UInt8),Below pb w0 w->PW pb sb v t w->t.length+(te-i)*600<=40000000->
  Calls Tryz.prog 23 #[Vq pb,tv] w fun e w'=>e=.returned (.tuple #[])/\∃v',PW pb sb v' (t++Dm L i te) w'/\PF pb w w'
theorem PW.put{pb sb:Nat}{v v':Value}{t x:List UInt8}{u u5:World}{n:Nat}(h:PW pb sb v t u)(hb:Below (pb+1) u u5)(hk:Lib.OthersKept 5 none u u5)(ho:u5.ownsRow (pb+1) 5 1 v' n (Lib.byteCells (t++x))):PW pb sb v' (t++x) (u5.setCell (Va pb 0) v')/\PF pb u (u5.setCell (Va pb 0) v')/\u5.cell? (Va pb 0)=some v/\u5.frozen? (Va pb 0)=false/\u5.cell? (Va pb 1)=some (Vq sb):=by
 have hc:∀i,u5.cell? (Va pb i)=u.cell? (Va pb i):=fun i=>hb.cell (p:=Va pb i) (by show pb<_;omega)
 have hf:∀i,u5.frozen? (Va pb i)=u.frozen? (Va pb i):=fun i=>hb.frozen (p:=Va pb i) (by show pb<_;omega)
 have hn:n=(t++x).length:=by have:=ho.1;rw[Lib.byteCells_length]at this;omega
 subst hn;have q:=hb.mono (Nat.le_succ pb);refine⟨⟨by simp[go_sem,hc,h.C],by simp[go_sem,hc,h.D],by simpa using jI h.lt hb.size,fun i=>by simpa using(hf i).trans (h.F i),ownsRow_setCell_below ho (by show pb<_;omega) _⟩,⟨?_,?_⟩,(hc 0).trans h.C,(hf 0).trans (h.F 0),(hc 1).trans h.D⟩
 ·exact⟨q.os,q.tape,q.output,by simpa using q.size,fun k hk=>(Below.heap_setCell u5 ⟨pb,0,none⟩ v' k (by show k≠pb;omega)).trans (q.block k hk)⟩
 ·exact Lib.OthersKept.setCell (b:=pb) (fun k o h1 _ h3=>hk k o h1 (by simp) h3) ⟨pb,0,none⟩ rfl v'
theorem RN{s:SV}{procs:Int}(h:BG s procs=true)(k:s.k=3):s.els=0:=by
 unfold BG at h;rw[if_neg (by omega),if_neg (by omega),if_pos k]at h;have:=of_decide_eq_true h;omega
theorem Cx(pb sb:Nat)(v:Value)(t:List UInt8)(xs:List ByteArray)(u:World)(h:PW pb sb v t u)(hN:xs.length<=100)(hl:(Ir xs).length<=1000000)(ht:t.length<=100000000):
 Calls Tryz.prog 18 #[Vq pb,Vs u.heap.size xs.length xs.length] (u.alloc (.cells (xs.map Value.string).toArray 9)) fun e w'=>e=.returned (.tuple #[])/\∃v',PW pb sb v' (t++Ir xs) w'/\PF pb u w':=
 (Em pb sb v t u.heap.size xs.length xs _ (h.below Ak) (FL u xs) (by simp) hN jG hl ht).mono fun e w'⟨h0,v',h1,h2⟩=>⟨h0,v',h1,(PF.of_below Ak (Nat.le_of_lt h.lt)).trans h2⟩
theorem Zv{L:Nat->SV}{S:Nat->Prop}{ao:Option Addr}{k c i te:Nat}:∀(m:Nat),Dg L m w S (.slice ao k c) i te->(0<k↔i<te)
 |0,h=>by
  obtain⟨h1,h2⟩:=h;have:=(Value.slice.inj h2).2.1;omega
 |m+1,⟨ns,hr,hl,_⟩=>by
  have hk:k=ns.length:=by
   rcases hr.1.2 with⟨e,e2⟩|⟨g,cap,cur,e,_⟩
   ·have:=(Value.slice.inj e).2.1;omega
   ·exact(Value.slice.inj e).2.1
  rw[hk,hl];by_cases h:i<te
  ·rw[DW h];simp[h]
  ·rw[ES h];simp[h]
theorem Tz(c:Int):(EP c).length<=2:=Px c
theorem Mx(w0:World)(pb sb:Nat)(L:Nat->SV)(p a b:Nat)(a0 cond:Int)(aoa:Option Addr)(ka ca:Nat)(aob:Option Addr)(kb cb:Nat)(h1:Nb w0 pb sb L (p+1) (p+1+a) (.slice aoa ka ca))(h2:Nb w0 pb sb L (p+1+a) (p+1+a+b) (.slice aob kb cb))(tb:TB pb w0)(w:World)(v:Value)(t xl yl:List UInt8)(hB:Below pb w0 w)(hP:PW pb sb v t w)(hx:Dm L (p+1) (p+1+a)=xl)(hy:Dm L (p+1+a) (p+1+a+b)=yl)(c1:1<=cond)(c4:cond<=4)(hs:t.length+(1+a+b)*600<=40000000)(lx:xl.length<=a*600)(ly:yl.length<=b*600):
 Calls Tryz.prog 46 #[Vq pb,.agg #[Vi a0,Vi cond,.slice aoa ka ca,.slice aob kb cb]] w fun e w'=>e=.returned (.tuple #[])/\∃v',PW pb sb v' (t++([105,102,32]++EP cond++[10]++xl++(if 0<kb then Dc++yl else[])++EO)) w'/\PF pb w w':=by
 have H1:=hxy h1;have H2:=hxy h2;have HXL:=hxy hx;have HYL:=hxy hy;have HB:=hxy hB;have H:=hxy hP;have TBH:=hxy tb;have lt:=hP.lt;have hcl:=Tz cond;have HCL:=hxy hcl;have wc:IntKind.i64.wrap (cond-1)=cond-1:=by rw[IntKind.wrap_i64];omega
 obtain⟨R,hR⟩:=Ae ((t++([105,102,32]++EP cond++[10]++xl++(if 0<kb then Dc++yl else[])++EO)));rw[hR];have HR:=hxy hR;clear h1 h2 hx hy hB hP tb hcl hR;go_enter Tryz.func46,Tryz.ntmps46;go_upto_region 1 with fail;obtain⟨u,hu,hbu,hcu⟩:∃y,w.alloc (.cells #[Vi a0,Vi cond,.slice aoa ka ca,.slice aob kb cb] 117)=y/\Below w.heap.size w y/\y.heap[w.heap.size]?=some (.cells #[Vi a0,Vi cond,.slice aoa ka ca,.slice aob kb cb] 117):=⟨_,rfl,Ak,EX _ _⟩
 rw[hu];obtain⟨xb,hxb⟩:=Ae w.heap.size;rw[hxb]at hcu⊢;have XU:=hxy hcu;have BU:=hxy hbu;have lxb:pb<xb:=by omega
 clear hu hbu hcu hxb;have q1:=Ab XU.out 1;go_wp2_with fail;refine(Ow cond u c1 c4 (TBH.out.a _ (HB.out.trans (BU.out.mono (Nat.le_of_lt lt))))).mono ?_;rintro e u1⟨rfl,hb1⟩;have B1:=hxy (BU.out.trans (hb1.mono BU.out.size));have X1:Hid (u1.heap[xb]?=some (.cells #[Vi a0,Vi cond,.slice aoa ka ca,.slice aob kb cb] 117)):=(hb1.block xb (jH.1 XU.out).1).trans XU.out;have F1:=hxy (PF.of_below B1.out (Nat.le_of_lt lt));clear hb1 q1 XU BU;go_wp2_with fail;refine(Cx pb sb v t [bs [105,102],bs (EP cond)] u1 (H.out.below B1.out) (by simp) (by rw[Wh];have:=HCL.out;simp;omega) (by omega)).mono ?_;rintro e y1⟨rfl,v1,n1,n2⟩;rw[Wh]at n1;obtain⟨t1,ht1⟩:=Ae (t++([105,102]++[32]++EP cond++[10]));rw[ht1]at n1;have HT1:=hxy ht1;have l1:t1.length<=t.length+6:=by rw[<-ht1];have:=HCL.out;simp;omega
 have P1:=hxy n1;have G1:=hxy (F1.out.trans n2);have X2:Hid (y1.heap[xb]?=some (.cells #[Vi a0,Vi cond,.slice aoa ka ca,.slice aob kb cb] 117)):=n2.cl X1.out (by omega) (by decide);clear n1 n2 ht1 B1 F1 X1;have q2:=Ab X2.out 2;go_wp2_with fail;refine(H1.out y1 v1 t1 (HB.out.trans G1.out.b) P1.out (by rw[show p+1+a-(p+1)=a by omega];omega)).mono ?_;rintro e y2⟨rfl,v2,n1,n2⟩;rw[HXL.out]at n1;have P2:=hxy n1;have G2:=hxy (G1.out.trans n2);have X3:Hid (y2.heap[xb]?=some (.cells #[Vi a0,Vi cond,.slice aoa ka ca,.slice aob kb cb] 117)):=n2.cl X2.out (by omega) (by decide);clear n1 n2 q2 P1 G1 X2;have q3:=Ab X3.out 3;by_cases hkb:0<kb
 ·have hkb':(0:Int)<(kb:Int):=by omega
  go_wp2_with fail;refine(Cx pb sb _ (t1++xl) [bs [101,108,115,101]] y2 P2.out (by simp) (by rw[Ny];simp) (by simp only[List.length_append];omega)).mono ?_;rintro e y3⟨rfl,v3,n1,n2⟩;rw[Ny]at n1;have P3:=hxy n1;have G3:=hxy (G2.out.trans n2);have X4:Hid (y3.heap[xb]?=some (.cells #[Vi a0,Vi cond,.slice aoa ka ca,.slice aob kb cb] 117)):=n2.cl X3.out (by omega) (by decide);clear n1 n2 q3 P2 G2 X3;have q3:=Ab X4.out 3;go_wp2_with fail;refine(H2.out y3 v3 (t1++xl++Dc) (HB.out.trans G3.out.b) P3.out (by rw[show p+1+a+b-(p+1+a)=b by omega];simp only[List.length_append,Dc,List.length_cons,List.length_nil];omega)).mono ?_;rintro e y4⟨rfl,v4,n1,n2⟩;rw[HYL.out]at n1;have P4:=hxy n1;have G4:=hxy (G3.out.trans n2);clear n1 n2 q3 P3 G3 X4;go_wp2_with fail;refine(Cx pb sb _ (t1++xl++Dc++yl) [bs [101,110,100]] y4 P4.out (by simp) (by rw[Ny];simp) (by simp only[List.length_append];simp only[Dc,List.length_cons,List.length_nil];omega)).mono ?_;rintro e y9⟨rfl,v9,n1,n2⟩;rw[Ny]at n1;have P9:Hid (PW pb sb v9 R y9):=(by
   rw[<-HR.out];rw[<-HT1.out]at n1;simp only[List.append_assoc,List.cons_append,List.nil_append,EO,hkb,if_true]at n1⊢;exact n1:PW pb sb v9 R y9)
  have G9:=hxy (G4.out.trans n2);clear n1 n2;go_wp2_with fail;go_end0;first
   |exact⟨rfl,v9,P9.out,G9.out⟩
   |exact⟨rfl,⟨v9,P9.out⟩,G9.out⟩
 have hkb':¬(0:Int)<(kb:Int):=by omega
 go_wp2_with fail;refine(Cx pb sb _ (t1++xl) [bs [101,110,100]] y2 P2.out (by simp) (by rw[Ny];simp) (by simp only[List.length_append];omega)).mono ?_;rintro e y9⟨rfl,v9,n1,n2⟩;rw[Ny]at n1;have P9:Hid (PW pb sb v9 R y9):=(by
  rw[<-HR.out];rw[<-HT1.out]at n1;simp only[List.append_assoc,List.cons_append,List.nil_append,EO,hkb,if_false]at n1⊢;exact n1:PW pb sb v9 R y9)
 have G9:=hxy (G2.out.trans n2);clear n1 n2;go_wp2_with fail;go_end0;first
  |exact⟨rfl,v9,P9.out,G9.out⟩
  |exact⟨rfl,⟨v9,P9.out⟩,G9.out⟩
structure XL(pb sb xb:Nat)(v:Value)(p:Nat)(s:SV)(w:World):Prop where
 c0:w.cell? (Va pb 0)=some v
 c1:w.cell? (Va pb 1)=some (Vq sb)
 x:w.heap[xb]?=some (.cells #[Vi (p:Int),Vi s.op,Vi s.d,Vi s.a,Vi s.b,Vi s.imm,Vi s.h] 114)
theorem WO(L:Nat->SV):∀(m i te:Nat),te-i<=m->(ER L i te).length<=te-i:=by
 intro m;induction m with
 |zero=>intro i te h;rw[ES (by omega)];simp
 |succ m ih=>
  intro i te h;by_cases hl:i<te
  ·rw[DW hl]
   have:=ih (i+1+(L i).thn.toNat+(L i).els.toNat) te (by omega);simp only[List.length_cons];omega
  ·rw[ES hl];simp
theorem VH(w0:World)(pb sb nb ob mb:Nat)(L:Nat->SV)(m i te:Nat)(me procs deep depth:Int)(tv:Value)(S:Nat->Prop)(hlb:w0.heap.size<=pb)(sc:SC w0 sb nb ob mb 1)(ls:sb<pb)(lnb:nb<pb)(lmb:mb<pb)(tb:TB pb w0)
 (hr:Dg L (m+1) w0 S tv i te)(hit:i<=te)(hpr:procs<=100)(hte:te<=500)(hck:(CZ L me procs deep i te depth).1=0)
 (ih:∀i' te' d v,i<i'->i'<=te'->te'<=te->(CZ L me procs deep i' te' d).1=0->Dg L m w0 S v i' te'->Nb w0 pb sb L i' te' v):Nb w0 pb sb L i te tv:=by
 intro w v0 t hb0 hP hsz;obtain⟨ns,hrow,hxl,hx⟩:=hr;obtain⟨aot,kt,ct,htv⟩:=Cw hrow.1;subst htv;have HROW:=hxy hrow;have HXL:=hxy hxl;have HX:Hid _:=hx;have HCK:=hxy hck;have IH:Hid _:=ih;have HB0:=hxy hb0;have P0:=hxy hP;have HSC:=hxy sc;have TBH:=hxy tb;have HPR:=hxy hpr;obtain⟨all,hall⟩:=Ae (Dm L i te);rw[hall];obtain⟨R,hR⟩:=Ae (t++all);rw[hR];have HR:=hxy hR;have HALL:=hxy hall;have hkt:kt=ns.length:=by
  rcases hrow.1.2 with⟨e,e2⟩|⟨g,cap,cur,e,_⟩
  ·have:=(Value.slice.inj e).2.1;omega
  ·exact(Value.slice.inj e).2.1
 have hk2:kt<=500:=by rw[hkt,hxl];exact Nat.le_trans (WO L _ i te jG) (by omega)
 have HKT:=hxy hkt;clear hrow hxl hx hck ih hb0 hP hall hkt sc tb hpr hR;go_enter Tryz.func23,Tryz.ntmps23;go_wp2;go_loopw [12](fun iv wr=>∃(q p:Nat)(v:Value)(done:List UInt8),q<=kt/\i<=p/\p<=te/\iv=Vi (q:Int)/\PW pb sb v (t++done) wr/\PF pb w wr/\done.length<=(p-i)*600/\done++Dm L p te=all/\(ER L i te).drop q=ER L p te/\(CZ L me procs deep p te depth).1=0)(fun iv _=>kt-(intOf iv).toNat)
 case atStart=>exact⟨0,i,v0,[],Nat.zero_le _,jG,hit,rfl,by rw[List.append_nil];exact P0.out,PF.refl _ _,by simp,HALL.out,by simp,HCK.out⟩
 case round=>
  obtain⟨q,p,v,done,hq,hip,hpt,rfl,hp,hs,hdl,hd,hdr,hc⟩:=hrel;have P1:=hxy hp;have G1:=hxy hs;have HD:=hxy hd;have HDR:=hxy hdr;have HK:=hxy hc;have B1:=hxy (HB0.out.trans hs.b);have ltw:=hp.lt;have hln:(t++done).length+(te-p)*600<=40000000:=by
   simp only[List.length_append];omega
  clear hp hs hd hdr hc;by_cases hlt:p<te
  rotate_left
  ·have hqn:q=kt:=by
    have h:=congrArg List.length HDR.out;rw[List.length_drop,<-HXL.out,<-HKT.out,ES hlt]at h;simp at h;omega
   have hqx':¬(q:Int)<(kt:Int):=by omega
   have P9:Hid (PW pb sb v R wr):=(by
    have h:=HD.out;rw[J5 hlt,List.append_nil]at h;rw[<-HR.out,<-h];exact P1.out:PW pb sb v R wr)
   clear hlt hln;go_wp2_with fail;go_end0;first
    |exact⟨rfl,v,P9.out,G1.out⟩
    |exact⟨rfl,⟨v,P9.out⟩,G1.out⟩
  have hqx:q<kt:=by
   have h:=congrArg List.length HDR.out;rw[List.length_drop,<-HXL.out,<-HKT.out,DW hlt]at h;simp at h;omega
  have hqx':(q:Int)<(kt:Int):=by omega
  obtain⟨gt,ctt,htt⟩:=Hu HROW.out.1 (by rw[<-HKT.out];omega);obtain⟨rfl,hz,rfl⟩:=Value.slice.inj htt;clear hz;have HR2:Hid (w0.ownsRow 0 112 1 (Vs gt ns.length ct) ns.length ns):=(by have:=HROW.out.1;rwa [HKT.out]at this:w0.ownsRow 0 112 1 (Vs gt ns.length ct) ns.length ns)
  obtain⟨x,hxq⟩:∃x,ns[q]?=some x:=⟨ns[q]'(by rw[<-HKT.out];exact hqx),by simp[<-HKT.out,hqx]⟩
  have hpq:(ER L i te)[q]?=some p:=by
   have h:=congrArg (fun l=>l[0]?) HDR.out;simp only[DW hlt,List.getElem?_drop,Nat.add_zero,List.getElem?_cons_zero]at h;exact h
  have hdn:(ER L i te).drop (q+1)=ER L (p+1+(L p).thn.toNat+(L p).els.toNat) te:=by
   have h:=congrArg (List.drop 1) HDR.out;rw[List.drop_drop,DW hlt]at h;simpa[Nat.add_comm]using h
  have lgt:gt<pb:=by have:=(HROW.out.1.lt gt rfl).2;omega
  have g0:wr.cell? (Va gt q)=some x:=by
   rw[B1.out.cell (p:=Va gt q) lgt,HR2.out.cellAt q (by rw[<-HKT.out];omega)];exact hxq
  obtain⟨sok,hnt,k1',k2',k3'⟩:=Gv HK.out hlt;have HSOK:=hxy sok;have HC1:Hid _:=k1';have HC2:Hid _:=k2';have HC3:Hid _:=k3';have HDN:Hid _:=hdn;have HNT:=hxy hnt;have hcase:=HX.out q x p hxq hpq;obtain⟨a,ha⟩:∃x:Nat,(L p).thn.toNat=x:=⟨_,rfl⟩
  obtain⟨b,hb⟩:∃x:Nat,(L p).els.toNat=x:=⟨_,rfl⟩
  have hnt':p+1+a+b<=te:=by omega
  have HAB:Hid ((L p).thn.toNat=a/\(L p).els.toNat=b):=⟨ha,hb⟩
  have HD3:Hid ((ER L i te).drop (q+1)=ER L (p+1+a+b) te):=(by rw[hdn,ha,hb]:(ER L i te).drop (q+1)=ER L (p+1+a+b) te)
  have HC4:Hid ((CZ L me procs deep (p+1+a+b) te depth).1=0):=(by have h:=k3';rw[ha,hb]at h;exact h:(CZ L me procs deep (p+1+a+b) te depth).1=0)
  have HC5:Hid ((CZ L me procs deep (p+1) (p+1+a) (depth+1)).1=0):=(by have h:=k1';rw[ha]at h;exact h:(CZ L me procs deep (p+1) (p+1+a) (depth+1)).1=0)
  have HC6:Hid ((CZ L me procs deep (p+1+a) (p+1+a+b) (depth+1)).1=0):=(by have h:=k2';rw[ha,hb]at h;exact h:(CZ L me procs deep (p+1+a) (p+1+a+b) (depth+1)).1=0)
  have NXT:Hid (∀y:List UInt8,Dm L p te=y++Dm L (p+1+a+b) te->(done++y)++Dm L (p+1+a+b) te=all):=(fun y hy=>by rw[List.append_assoc,<-hy];exact HD.out:∀y:List UInt8,Dm L p te=y++Dm L (p+1+a+b) te->(done++y)++Dm L (p+1+a+b) te=all)
  clear sok k1' k2' k3' hdn hnt hxq hpq htt HDR HK ha hb HDN HC1 HC2 HC3;rcases hcase with⟨k1,rfl⟩|⟨k2,v1,v2,rfl,r1,r2⟩|⟨k3,v1,rfl,r1⟩|⟨k4,rfl⟩
  ·have K:=hxy k1
   obtain⟨w1',w2',w3',w4',w5',w6',w7'⟩:=KC (NT HSOK.out k1).1;have HY:Hid (done++(Ey (L p)++[10])++Dm L (p+1+a+b) te=all):=NXT.out (Ey (L p)++[10]) (by rw[U3 hlt HNT.out k1,HAB.out.1,HAB.out.2]);have hll:=MH (d:=1) (NT HSOK.out k1).1;clear k1;have t1:=iL;go_upto_region 6 with fail;clear t1 g0;obtain⟨u1,hu1,hb1,hc1⟩:∃x,wr.alloc (.cells #[Vi (p:Int),Vi (L p).op,Vi (L p).d,Vi (L p).a,Vi (L p).b,Vi (L p).imm,Vi (L p).h] 114)=x/\Below wr.heap.size wr x/\x.heap[wr.heap.size]?=some (.cells #[Vi (p:Int),Vi (L p).op,Vi (L p).d,Vi (L p).a,Vi (L p).b,Vi (L p).imm,Vi (L p).h] 114):=⟨_,rfl,Ak,EX _ _⟩
   rw[hu1];obtain⟨xb,hxb⟩:=Ae wr.heap.size;rw[hxb]at hc1⊢;have lxb:pb<xb:=by omega
   have P2:=hxy (P1.out.below hb1);have G2:=hxy (G1.out.trans (PF.of_below hb1 (Nat.le_of_lt ltw)));have ltu:=P2.out.lt;have X1:=hxy hc1;clear hu1 hb1 hc1 hxb;obtain⟨aov,kv,cv,hvv⟩:=Cw P2.out.O;subst hvv;have TD:XL pb sb xb (.slice aov kv cv) p (L p) u1.drew:=⟨P2.out.C,P2.out.D,X1.out⟩
   have bd:Below u1.heap.size u1 u1.drew:=(Below.refl _ _).drew;have r0:∀w',XL pb sb xb (.slice aov kv cv) p (L p) w'->w'.cell? (Va pb 0)=some (.slice aov kv cv):=fun w' h=>h.c0
   have r1:∀w',XL pb sb xb (.slice aov kv cv) p (L p) w'->w'.cell? (Va pb 1)=some (Vq sb):=fun w' h=>h.c1
   have x1:∀w',XL pb sb xb (.slice aov kv cv) p (L p) w'->w'.cell? (Va xb 1)=some (Vi (L p).op):=fun w' h=>Ab h.x 1
   have x2:∀w',XL pb sb xb (.slice aov kv cv) p (L p) w'->w'.cell? (Va xb 2)=some (Vi (L p).d):=fun w' h=>Ab h.x 2
   have x3:∀w',XL pb sb xb (.slice aov kv cv) p (L p) w'->w'.cell? (Va xb 3)=some (Vi (L p).a):=fun w' h=>Ab h.x 3
   have x4:∀w',XL pb sb xb (.slice aov kv cv) p (L p) w'->w'.cell? (Va xb 4)=some (Vi (L p).b):=fun w' h=>Ab h.x 4
   have x5:∀w',XL pb sb xb (.slice aov kv cv) p (L p) w'->w'.cell? (Va xb 5)=some (Vi (L p).imm):=fun w' h=>Ab h.x 5
   have x6:∀w',XL pb sb xb (.slice aov kv cv) p (L p) w'->w'.cell? (Va xb 6)=some (Vi (L p).h):=fun w' h=>Ab h.x 6
   refine BF (T:=fun w'=>XL pb sb xb (.slice aov kv cv) p (L p) w') (s:=14) (by kernel_rfl) TD (fun hHeld=>?_);clear TD;generalize u1.drew=t0 at hHeld bd⊢;have P3:=hxy (P2.out.below bd);have G3:=hxy (G2.out.trans (PF.of_below bd (Nat.le_of_lt ltu)));have lt0:=P3.out.lt;clear bd;refine AJ 0 rfl ?_;refine AJ 1 rfl ?_;refine AJ 2 rfl ?_;refine AJ 3 rfl ?_;refine AJ 4 rfl ?_;refine AJ 5 rfl ?_;refine AJ 6 rfl ?_;refine AJ 7 rfl ?_;refine AJ 8 rfl ?_;refine AJ 9 rfl ?_;refine AJ 10 rfl ?_;refine Aq (i:=11) rfl (by kernel_rfl) (fun KK hK=>?_);go_simp;have B3:=hxy (HB0.out.trans G3.out.b);refine(Qp (pb+1) (t++done).length (.slice aov kv cv) (t++done) sb nb ob mb 1 (L p).op (L p).d (L p).a (L p).b (L p).imm (L p).h t0 (HSC.out.below B3.out ls lnb lmb) (.inr rfl) w1' w2' lt0 (by omega) (by omega) (by omega) P3.out.O (by omega) (by omega) (by omega) (by omega) (by omega) (by omega) (fun w' hw=>TBH.out.p w' (B3.out.trans (hw.mono (Nat.le_succ pb))))).mono ?_;rintro e t1⟨vq,nq,rfl,ho,_,hbq,hkq⟩;obtain⟨n1,n2,n3,n4,n5⟩:=P3.out.put hbq hkq ho;obtain⟨aoq,kq,cq,hvq⟩:=Cw ho;subst hvq;have T1:XL pb sb xb (.slice aov kv cv) p (L p) t1:=⟨n3,n5,hkq xb _ hHeld.x (by simp) (fun c fz e=>absurd (Obj.cells.inj e).2.1 (by decide))⟩
   have P9:Hid (PW pb sb (.slice aoq kq cq) (t++(done++(Ey (L p)++[10]))) (t1.setCell (Va pb 0) (.slice aoq kq cq))):=(by
    have h:=n1;rw[List.append_assoc]at h;have e9:(Fb 1 (L p).op (L p).d (L p).a (L p).b (L p).imm (L p).h++⟨#[10]⟩).data.toList=Ey (L p)++[10]:=by
     unfold Ey;simp
    rw[e9]at h;exact h:PW pb sb (.slice aoq kq cq) (t++(done++(Ey (L p)++[10]))) (t1.setCell (Va pb 0) (.slice aoq kq cq)))
   have G9:=hxy (G3.out.trans n2);show KK _ _;refine hK.out _ _ T1 (fun hHeld1=>?_);clear hK KK n1 n2 n5 ho hbq hkq P2 G2 X1 P3 G3 B3;try simp only[Act.put,BP,BN,BK,BQ,BS,BM]
   refine C9 12 rfl ?_;refine AJ 13 rfl ?_;clear hHeld hHeld1 T1 r0 r1 x1 x2 x3 x4 x5 x6;refine A7 rfl (by kernel_rfl) (by kernel_rfl) (fun KK hK=>?_);go_simp;refine hK.out _ _ ?_;clear hK KK n3 n4;have hdz:(done++(Ey (L p)++[10])).length<=(p+1+a+b-i)*600:=by
    have:(Ey (L p)).length<=530:=hll;simp only[List.length_append,List.length_cons,List.length_nil];omega
   generalize t1.setCell (Va pb 0) (.slice aoq kq cq)=u at P9 G9⊢;clear hll;go_wp2;go_roundw
   case rel=>exact⟨q+1,p+1+a+b,_,done++(Ey (L p)++[10]),by omega,by omega,by omega,by go_num,P9.out,G9.out,hdz,HY.out,HD3.out,HC4.out⟩
   case measure=>simp[intOf];omega
  ·have K:=hxy k2
   obtain⟨aoa,ka,ca,hva⟩:=Dg.shape m r1;subst hva;obtain⟨aob,kb,cb,hvb⟩:=Dg.shape m r2;subst hvb;rw[HAB.out.1]at r1 r2;rw[HAB.out.2]at r2;have hkb:=Zv m r2;have H1:Hid (Nb w0 pb sb L (p+1) (p+1+a) (.slice aoa ka ca)):=IH.out (p+1) (p+1+a) (depth+1) _ (by omega) (by omega) (by omega) HC5.out r1;have H2:Hid (Nb w0 pb sb L (p+1+a) (p+1+a+b) (.slice aob kb cb)):=IH.out (p+1+a) (p+1+a+b) (depth+1) _ (by omega) (by omega) (by omega) HC6.out r2;have hcd:=PX HSOK.out (.inl k2);obtain⟨xl,hxl⟩:=Ae (Dm L (p+1) (p+1+a));obtain⟨yl,hyl⟩:=Ae (Dm L (p+1+a) (p+1+a+b));have HXX:=hxy hxl;have HYY:=hxy hyl;obtain⟨Y,hY⟩:=Ae (([105,102,32]++EP (L p).cond++[10]++xl++(if 0<kb then Dc++yl else[])++EO));have HY0:=hxy hY;have hnode:Dm L p te=Y++Dm L (p+1+a+b) te:=by
    have hels:(0<(L p).els)=(0<kb):=by
     have:=HAB.out.2;exact propext ⟨fun h=>hkb.2 (by omega),fun h=>by have:=hkb.1 h;omega⟩
    rw[Oy hlt HNT.out (.inl k2),HAB.out.1,HAB.out.2,hxl,hyl,<-hY];unfold Gy;rw[if_neg (by omega)];simp only[hels]
   have HY:=hxy (NXT.out Y hnode);have hlx:xl.length<=a*600:=by
    have:=FX HPR.out _ (p+1) (p+1+a) (depth+1) jG (by omega) HC5.out;rw[hxl]at this;omega
   have hly:yl.length<=b*600:=by
    have:=FX HPR.out _ (p+1+a) (p+1+a+b) (depth+1) jG (by omega) HC6.out;rw[hyl]at this;omega
   have hyz:Y.length<=(1+a+b)*600:=by
    have:=Tz (L p).cond;rw[<-hY];split<;>simp only[List.length_append,List.length_cons,List.length_nil,Dc,EO]<;>omega
   clear r1 r2 k2 hxl hyl hY hnode hkb;have t1:=gY;have t2:=gW;go_upto_region 9 with fail;clear t1 t2 g0;obtain⟨u1,hu1,hb1,hc1⟩:∃x,wr.alloc (.cells #[Vi (p:Int),Vi (L p).cond,.slice aoa ka ca,.slice aob kb cb] 117)=x/\Below wr.heap.size wr x/\Cl x wr.heap.size [Vi (p:Int),Vi (L p).cond,.slice aoa ka ca,.slice aob kb cb]:=⟨_,rfl,Ak,Cl.new⟩
   rw[hu1];have P2:=hxy (P1.out.below hb1);have G2:=hxy (G1.out.trans (PF.of_below hb1 (Nat.le_of_lt ltw)));have B2:=hxy (HB0.out.trans G2.out.b);have zx:=hc1.1;have c0':u1.cell? ⟨wr.heap.size,0,none⟩=some (Vi (p:Int)):=hc1.2 0 (by simp);have c1':u1.cell? ⟨wr.heap.size,1,none⟩=some (Vi (L p).cond):=hc1.2 1 (by simp);have c2':u1.cell? ⟨wr.heap.size,2,none⟩=some (.slice aoa ka ca):=hc1.2 2 (by simp);have c3':u1.cell? ⟨wr.heap.size,3,none⟩=some (.slice aob kb cb):=hc1.2 3 (by simp);clear hu1 hb1 hc1;go_wp2_with fail;refine(Mx w0 pb sb L p a b (p:Int) (L p).cond aoa ka ca aob kb cb H1.out H2.out TBH.out u1 v (t++done) xl yl B2.out P2.out HXX.out HYY.out hcd.1 hcd.2 (by omega) hlx hly).mono ?_;rintro e u2⟨rfl,v9,n1,n2⟩;rw[HY0.out,List.append_assoc]at n1;have P3:=hxy n1;have G3:=hxy (G2.out.trans n2);have hdz:(done++Y).length<=(p+1+a+b-i)*600:=by simp only[List.length_append];omega
   clear n1 n2 c0' c1' c2' c3' P2 G2 B2 hlx hly hyz;go_wp2;go_roundw
   case rel=>exact⟨q+1,p+1+a+b,v9,done++Y,by omega,by omega,by omega,by go_num,P3.out,G3.out,hdz,HY.out,HD3.out,HC4.out⟩
   case measure=>simp[intOf];omega
  ·have K:=hxy k3
   obtain⟨aoa,ka,ca,hva⟩:=Dg.shape m r1;subst hva;rw[HAB.out.1]at r1;have eb0:b=0:=by have:=RN HSOK.out k3;have:=HAB.out.2;omega
   have H1:Hid (Nb w0 pb sb L (p+1) (p+1+a) (.slice aoa ka ca)):=IH.out (p+1) (p+1+a) (depth+1) _ (by omega) (by omega) (by omega) HC5.out r1;have hcd:=PX HSOK.out (.inr k3);obtain⟨xl,hxl⟩:=Ae (Dm L (p+1) (p+1+a));have HXX:=hxy hxl;have hnode:Dm L p te=([119,104,105,108,101,32]++EP (L p).cond++[10]++xl++EO)++Dm L (p+1+a+b) te:=by
    rw[Oy hlt HNT.out (.inr k3),HAB.out.1,HAB.out.2,hxl];unfold Gy;rw[if_pos k3,if_neg (by have:=RN HSOK.out k3;omega),List.append_nil]
   obtain⟨Y,hY⟩:=Ae (([119,104,105,108,101,32]++EP (L p).cond++[10]++xl++EO));have HY0:=hxy hY;have HY:Hid (done++Y++Dm L (p+1+a+b) te=all):=NXT.out Y (by rw[hnode,hY]);have hlx:xl.length<=a*600:=by
    have:=FX HPR.out _ (p+1) (p+1+a) (depth+1) jG (by omega) HC5.out;rw[hxl]at this;omega
   have hcl:=Tz (L p).cond;have HCL:=hxy hcl;have hyz:Y.length<=(1+a+b)*600:=by
    rw[<-hY];simp only[List.length_append,List.length_cons,List.length_nil,EO];omega
   have wcd:IntKind.i64.wrap ((L p).cond-1)=(L p).cond-1:=by rw[IntKind.wrap_i64];omega
   clear r1 k3 hxl hY hnode hcl;have t1:=gU;have t2:=gm;have t3:=gu;go_upto_region 12 with fail;clear t1 t2 t3 g0;obtain⟨u1,hu1,hb1,hc1⟩:∃x,wr.alloc (.cells #[Vi (p:Int),Vi (L p).cond,.slice aoa ka ca] 120)=x/\Below wr.heap.size wr x/\x.heap[wr.heap.size]?=some (.cells #[Vi (p:Int),Vi (L p).cond,.slice aoa ka ca] 120):=⟨_,rfl,Ak,EX _ _⟩
   rw[hu1];obtain⟨xb,hxb⟩:=Ae wr.heap.size;rw[hxb]at hc1⊢;have lxb:pb<xb:=by omega
   have P2:=hxy (P1.out.below hb1);have G2:=hxy (G1.out.trans (PF.of_below hb1 (Nat.le_of_lt ltw)));have ltu:=P2.out.lt;have X1:=hxy hc1;have c1':=Ab hc1 1;clear hu1 hb1 hc1 hxb;go_wp2_with fail;refine(Ow (L p).cond u1 hcd.1 hcd.2 (TBH.out.a _ (HB0.out.trans G2.out.b))).mono ?_;rintro e u2⟨rfl,hb2⟩;have P3:=hxy (P2.out.below hb2);have G3:=hxy (G2.out.trans (PF.of_below hb2 (Nat.le_of_lt ltu)));have X2:Hid (u2.heap[xb]?=some (.cells #[Vi (p:Int),Vi (L p).cond,.slice aoa ka ca] 120)):=(hb2.block xb (jH.1 X1.out).1).trans X1.out;clear hb2 P2 G2 X1 c1';go_wp2_with fail;refine(Cx pb sb v (t++done) [bs [119,104,105,108,101],bs (EP (L p).cond)] u2 P3.out (by simp) (by rw[Wh];have:=HCL.out;simp;omega) (by omega)).mono ?_;rintro e y1⟨rfl,v1,n1,n2⟩;rw[Wh]at n1;obtain⟨t1,ht1⟩:=Ae (t++done++([119,104,105,108,101]++[32]++EP (L p).cond++[10]));rw[ht1]at n1;have HT1:=hxy ht1;have l1:t1.length<=(t++done).length+9:=by rw[<-ht1];have:=HCL.out;simp;omega
   have P4:=hxy n1;have G4:=hxy (G3.out.trans n2);have X3:Hid (y1.heap[xb]?=some (.cells #[Vi (p:Int),Vi (L p).cond,.slice aoa ka ca] 120)):=n2.cl X2.out (by omega) (by decide);have c2':=Ab X3.out 2;clear n1 n2 ht1 P3 G3 X2;go_wp2_with fail;refine(H1.out y1 v1 t1 (HB0.out.trans G4.out.b) P4.out (by rw[show p+1+a-(p+1)=a by omega];omega)).mono ?_;rintro e y2⟨rfl,v2,n1,n2⟩;rw[HXX.out]at n1;have P5:=hxy n1;have G5:=hxy (G4.out.trans n2);clear n1 n2 c2' P4 G4 X3;go_wp2_with fail;refine(Cx pb sb v2 (t1++xl) [bs [101,110,100]] y2 P5.out (by simp) (by rw[Ny];simp) (by simp only[List.length_append]at l1⊢;omega)).mono ?_;rintro e y9⟨rfl,v9,n1,n2⟩;rw[Ny]at n1;have P9:Hid (PW pb sb v9 (t++(done++Y)) y9):=(by
    rw[<-HT1.out]at n1;rw[<-HY0.out];simp only[List.append_assoc,List.cons_append,List.nil_append,EO]at n1⊢;exact n1:PW pb sb v9 (t++(done++Y)) y9)
   have G9:=hxy (G5.out.trans n2);have hdz:(done++Y).length<=(p+1+a+b-i)*600:=by simp only[List.length_append];omega
   clear n1 n2 P5 G5 hlx hyz l1;go_wp2;go_roundw
   case rel=>exact⟨q+1,p+1+a+b,v9,done++Y,by omega,by omega,by omega,by go_num,P9.out,G9.out,hdz,HY.out,HD3.out,HC4.out⟩
   case measure=>simp[intOf];omega
  ·have K:=hxy k4
   obtain⟨y2,y3⟩:=Js HSOK.out (.inr k4);have ea:a=0:=by have:=HAB.out.1;omega
   have eb:b=0:=by have:=HAB.out.2;omega
   have hpc:=Jv HSOK.out k4;have hpn:(L p).proc.natAbs<10000000000000000:=by have:=HPR.out;omega
   have hlc:=Oa HSOK.out k4 HPR.out;have HY:Hid (done++EZ (L p)++Dm L (p+1+a+b) te=all):=NXT.out (EZ (L p)) (by rw[U9 hlt HNT.out k4,HAB.out.1,HAB.out.2]);have HLN:Hid (Ir [bs [99,97,108,108],bs (Lib.itoa (L p).proc)]=EZ (L p)):=(by rw[Wh];unfold EZ;simp only[List.cons_append,List.nil_append]:Ir [bs [99,97,108,108],bs (Lib.itoa (L p).proc)]=EZ (L p))
   clear k4 y2 y3 hpc;have t1:=gQ;have t2:=iE;have t3:=iA;have t4:=gT;go_upto_region 17 with fail;clear t1 t2 t3 t4 g0;obtain⟨u1,hu1,hb1,hc1⟩:∃x,wr.alloc (.cells #[Vi (L p).proc] 122)=x/\Below wr.heap.size wr x/\Cl x wr.heap.size [Vi (L p).proc]:=⟨_,rfl,Ak,Cl.new⟩
   rw[hu1];have P2:=hxy (P1.out.below hb1);have G2:=hxy (G1.out.trans (PF.of_below hb1 (Nat.le_of_lt ltw)));have ltu:=P2.out.lt;have zx:=hc1.1;have c0':u1.cell? ⟨wr.heap.size,0,none⟩=some (Vi (L p).proc):=hc1.2 0 (by simp);clear hu1 hb1 hc1;go_wp2_with fail;refine(Cj (L p).proc hpn u1 (TBH.out.p _ (HB0.out.trans G2.out.b))).mono ?_;rintro e u2⟨rfl,hb2⟩;have P3:=hxy (P2.out.below hb2);have G3:=hxy (G2.out.trans (PF.of_below hb2 (Nat.le_of_lt ltu)));clear hb2 P2 G2 c0';go_wp2_with fail;refine(Cx pb sb v (t++done) [bs [99,97,108,108],bs (Lib.itoa (L p).proc)] u2 P3.out (by simp) (by rw[HLN.out];omega) (by omega)).mono ?_;rintro e y9⟨rfl,v9,n1,n2⟩;rw[HLN.out,List.append_assoc]at n1;have P9:=hxy n1;have G9:=hxy (G3.out.trans n2);have hdz:(done++EZ (L p)).length<=(p+1+a+b-i)*600:=by simp only[List.length_append];omega
   clear n1 n2 P3 G3 hlc;go_wp2;go_roundw
   case rel=>exact⟨q+1,p+1+a+b,v9,done++EZ (L p),by omega,by omega,by omega,by go_num,P9.out,G9.out,hdz,HY.out,HD3.out,HC4.out⟩
   case measure=>simp[intOf];omega
theorem YK(w0:World)(pb sb nb ob mb:Nat)(L:Nat->SV)(me procs deep:Int)(S:Nat->Prop)(hlb:w0.heap.size<=pb)(sc:SC w0 sb nb ob mb 1)(ls:sb<pb)(lnb:nb<pb)(lmb:mb<pb)(tb:TB pb w0)(hpr:procs<=100):∀(m i te:Nat)(depth:Int)(tv:Value),Dg L m w0 S tv i te->i<=te->te<=500->(CZ L me procs deep i te depth).1=0->Nb w0 pb sb L i te tv:=by
 intro m;induction m with
 |zero=>
  intro i te depth tv hr hit hte hck;obtain⟨h1,rfl⟩:=hr;obtain rfl:i=te:=by omega
  exact VH w0 pb sb nb ob mb L 0 i i me procs deep depth (.slice none 0 0) S hlb sc ls lnb lmb tb ⟨[],⟨World.ownsRow_nil _ _ _ _,fun b h=>by cases h⟩,by rw[ES (by omega)];rfl,fun k x p h=>by simp at h⟩ hit hpr hte hck (fun i' te' d v h1 h2 h3=>by omega)
 |succ m ih=>
  intro i te depth tv hr hit hte hck;exact VH w0 pb sb nb ob mb L m i te me procs deep depth tv S hlb sc ls lnb lmb tb hr hit hpr hte hck (fun i' te' d v h1 h2 h3 h4 h5=>ih i' te' d v h5 h2 (by omega) h4)
theorem Yi{B B' e n:Nat}{v:Value}{xs:List Value}(h:w.ownsRow B e 1 v n xs)(hb:B'<=B):w.ownsRow B' e 1 v n xs:=by
 refine⟨h.1,?_⟩;rcases h.2 with h'|⟨g,cap,cur,h1,h2,h3⟩
 ·exact .inl h'
 ·exact .inr ⟨g,cap,cur,h1,Nat.le_trans hb h2,h3⟩
theorem Wo(d:Int)(h:d=0∨d=1):Ir [bs [100,105,97,108,101,99,116],bs (if d=1 then[109,97,115,109]else[103,97,115])]=Ea d:=by
 rw[Wh];rcases h with rfl|rfl<;>rfl
theorem WH(h:HS):Ir [bs [104,101,97,112],bs (Lib.itoa h.size),bs (CP h.s),bs (if h.w=true then[119,114,105,116,101]else[114,101,97,100])]=heapT h:=by
 rw[dG];unfold heapT;cases h.w<;>simp
theorem Rx(bH cH nH:Nat)(S:Nat->HS)(bR cR nR:Nat)(V:Nat->VV)(bp np cp:Nat)(Pv:Nat->PV)(blk:Nat->Nat)(d:Int)(w:World)(lH:nH<=1048576)(lR:nR<=1048576)(ln:np<=1048576)(lb:∀i,i<np->(Pv i).n<=1048576)(h1:Bl w bH nH S bR nR V)(h2:TP w bp np Pv blk)(hok:EW d nH S nR V np Pv=false):
 Calls Tryz.prog 5 #[.agg #[Vi d,Vs bH nH cH,Vs bR nR cR,Vs bp np cp]] w fun e w'=>∃v,e=.returned v/\w'.ownsRow w.heap.size 5 1 v (([]:List UInt8)).length (Lib.byteCells (([]:List UInt8)))/\Below w.heap.size w w':=by
 go_enter Tryz.func5,Tryz.ntmps5;go_upto_region 1 with fail;obtain⟨u,hu,hbu,hsb⟩:∃x,w.alloc (.cells #[Vi d,Vs bH nH cH,Vs bR nR cR,Vs bp np cp] 29)=x/\Below w.heap.size w x/\SB x w.heap.size d bH cH nH S bR cR nR V bp np cp Pv blk:=⟨_,rfl,Ak,Cl.new,h1.below Ak,h2.below Ak⟩
 rw[hu];clear hu h1 h2;obtain⟨sb,hsz⟩:=Ae w.heap.size;rw[hsz]at hsb⊢;have HSB:=hxy hsb;have BU:=hxy hbu;have LB:=hxy lb;have HSZ:=hxy hsz;obtain⟨q0,q1,q2,q3⟩:=JF hsb;have sl:=hsb.c.1;clear hbu hsb lb hsz;have fin:∀w1,Below w.heap.size w w1->(∃v,Ending.returned (Vs w1.heap.size 0 0)=.returned v/\(w1.alloc (.cells #[] 5)).ownsRow w.heap.size 5 1 v ([]:List UInt8).length (Lib.byteCells [])/\Below w.heap.size w (w1.alloc (.cells #[] 5))):=fun w1 h1=>
  ⟨_,rfl,⟨rfl,Or.inr ⟨_,0,#[],rfl,h1.size,Ai w1 _,jG,Nat.zero_le _,rfl,rfl⟩⟩,h1.alloc h1.size _⟩
 have FIN:Hid _:=fin;clear fin;have HOK:=hxy hok;clear hok;cases hd:Ec d 0 1 with
 |false=>
  go_wp2_with fail;refine(Fg _ _).mono ?_;rintro e w2⟨rfl,hw2⟩;rw[hw2,hd];clear hw2 hd;go_wp2_with fail;go_ret;exact FIN.out _ BU.out
 |true=>
  have HD:Hid (decide ((0:Int)<=d/\d<=1)=true):=(by unfold Ec at hd;simp at hd⊢;exact hd:decide ((0:Int)<=d/\d<=1)=true)
  go_wp2_with fail;refine(Fg _ _).mono ?_;rintro e w2⟨rfl,hw2⟩;rw[hw2,hd];clear hw2 hd;go_wp2_with fail;refine(Kb bH cH nH S bR cR nR V _ lH lR HSB.out.s).mono ?_;rintro e w3⟨rfl,hb3⟩;have B3:=hxy (BU.out.trans (hb3.mono BU.out.size));have HS3:=hxy (HSB.out.below hb3);clear hb3 q0 q1 q2 q3;obtain⟨q0,q1,q2,q3⟩:=JF HS3.out;cases hs:Cu nH S nR V with
  |false=>
   clear hs;go_wp2_with fail;go_ret;exact FIN.out _ B3.out
  |true=>
   have HSG:=hxy hs;clear hs;go_wp2_with fail;refine(Ik bp np cp Pv blk _ ln LB.out HS3.out.p).mono ?_;rintro e w4⟨aot,kt,ct,aoz,kz,cz,rfl,hb4,_⟩;have B4:=hxy (B3.out.trans (hb4.mono B3.out.size));clear hb4 q0 q1 q2 q3;have hne:((Bz Pv np).1 !=0)=true:=by
    have:=HOK.out;unfold EW at this;rw[HD.out,HSG.out]at this;simpa using this
   go_upto_region 4 with fail;obtain⟨w5,hw5,hb5,hc5⟩:∃y,w4.alloc (.cells #[Vi (Bz Pv np).1,Vi (Bz Pv np).2.1,Vi (Bz Pv np).2.2,.slice aot kt ct,.slice aoz kz cz] 57)=y/\Below w4.heap.size w4 y/\y.heap[w4.heap.size]?=some (.cells #[Vi (Bz Pv np).1,Vi (Bz Pv np).2.1,Vi (Bz Pv np).2.2,.slice aot kt ct,.slice aoz kz cz] 57):=⟨_,rfl,Ak,EX _ _⟩
   rw[hw5];have B5:=hxy (B4.out.trans (hb5.mono B4.out.size));have c0:=Ab hc5 0;clear hw5 hb5 hc5;go_wp2_with fail;go_ret;exact FIN.out _ B5.out
theorem UJ(bH cH nH:Nat)(S:Nat->HS)(bR cR nR:Nat)(V:Nat->VV)(bp np cp:Nat)(Pv:Nat->PV)(blk:Nat->Nat)(d:Int)(w:World)(lH:nH<=1048576)(lR:nR<=1048576)(ln:np<=1048576)(lb:∀i,i<np->(Pv i).n<=1048576)(h1:Bl w bH nH S bR nR V)(h2:TP w bp np Pv blk)(hok:EW d nH S nR V np Pv=true)(ht1:Lib.TabIs Tryz.prog w "internal/strconv.uint64pow10" .u64 Lib.pow10Tab)(ht2:Lib.TabIs Tryz.prog w "strings.asciiSpace" .u8 Lib.asciiSpaceTab):
 Calls Tryz.prog 5 #[.agg #[Vi d,Vs bH nH cH,Vs bR nR cR,Vs bp np cp]] w fun e w'=>∃v,e=.returned v/\w'.ownsRow w.heap.size 5 1 v (JD d nH S V np Pv).length (Lib.byteCells (JD d nH S V np Pv))/\Below w.heap.size w w':=by
 have T1:=hxy (Lib.tabBelow_of_tabIs ht1);have T2:=hxy (Lib.tabBelow_of_tabIs ht2);clear ht1 ht2;obtain⟨R,hR⟩:=Ae (JD d nH S V np Pv);rw[hR];have HR:=hxy hR;clear hR;go_enter Tryz.func5,Tryz.ntmps5;go_upto_region 1 with fail;obtain⟨u,hu,hbu,hsb⟩:∃x,w.alloc (.cells #[Vi d,Vs bH nH cH,Vs bR nR cR,Vs bp np cp] 29)=x/\Below w.heap.size w x/\SB x w.heap.size d bH cH nH S bR cR nR V bp np cp Pv blk:=⟨_,rfl,Ak,Cl.new,h1.below Ak,h2.below Ak⟩
 rw[hu];clear hu h1 h2;obtain⟨sb,hsz⟩:=Ae w.heap.size;rw[hsz]at hsb⊢;have HSB:=hxy hsb;have BU:=hxy hbu;have LB:=hxy lb;have HSZ:=hxy hsz;obtain⟨q0,q1,q2,q3⟩:=JF hsb;have sl:=hsb.c.1;clear hbu hsb lb hsz;obtain⟨hd,g⟩:=MW hok;have HD:=hxy hd;have G:=hxy g;have h8:=g.h8;have p20:=g.p20;have hnR:=g.r8;subst hnR;have hdd:Ec d 0 1=true:=by rcases hd with rfl|rfl<;>rfl
 have HSG:Hid (Cu nH S 8 V=true):=(by unfold EW at hok;simp only[Bool.and_eq_true]at hok;exact hok.1.2:Cu nH S 8 V=true)
 have h0:(Bz Pv np).1=0:=by unfold EW at hok;simp only[Bool.and_eq_true,decide_eq_true_eq]at hok;exact hok.2
 have H0:=hxy h0;clear hd g hok h0;go_wp2_with fail;refine(Fg _ _).mono ?_;rintro e w2⟨rfl,hw2⟩;rw[hw2,hdd];clear hw2 hdd;go_wp2_with fail;refine(Kb bH cH nH S bR cR 8 V _ lH lR HSB.out.s).mono ?_;rintro e w3⟨rfl,hb3⟩;rw[HSG.out];have B3:=hxy (BU.out.trans (hb3.mono BU.out.size));have HS3:=hxy (HSB.out.below hb3);clear hb3 q0 q1 q2 q3 HSG HSB BU sl;obtain⟨q0,q1,q2,q3⟩:=JF HS3.out;go_wp2_with fail;refine(Ik bp np cp Pv blk _ ln LB.out HS3.out.p).mono ?_;rintro e w4⟨aot,kt,ct,aoz,kz,cz,rfl,hb4,hun⟩;obtain⟨gt,cgt,zb,hv1,hv2,z1,z2,z3,az,vs,hat,hrep⟩:=hun H0.out;obtain⟨e1,e2,e3⟩:=Value.slice.inj hv1;subst e1;have e2':=e2.symm;subst e2';subst e3;obtain⟨e4,e5,e6⟩:=Value.slice.inj hv2;subst e4;have e5':=e5.symm;subst e5';have e6':=e6.symm;subst e6';have B4:=hxy (B3.out.trans (hb4.mono B3.out.size));have HS4:=hxy (HS3.out.below hb4);have A4:=hxy hat;have R4:=hxy hrep;rw[H0.out];clear hb4 q0 q1 q2 q3 HS3 B3 LB hun hv1 hv2 z1 z2 z3 az hat hrep e2 e5 e6;go_upto_region 4 with fail;obtain⟨w5,hw5,hb5,hc5⟩:∃y,w4.alloc (.cells #[Vi 0,Vi (Bz Pv np).2.1,Vi (Bz Pv np).2.2,Vs gt np ct,Vs zb np np] 57)=y/\Below w4.heap.size w4 y/\Cl y w4.heap.size [Vi 0,Vi (Bz Pv np).2.1,Vi (Bz Pv np).2.2,Vs gt np ct,Vs zb np np]:=⟨_,rfl,Ak,Cl.new⟩
 rw[hw5];obtain⟨ub,hub⟩:=Ae w4.heap.size;rw[hub]at hc5⊢;have B5:=hxy (B4.out.trans (hb5.mono B4.out.size));have HS5:=hxy (HS4.out.below hb5);have A5:=hxy (A4.out.below hb5 A4.out.lt);have R5:Hid (∀i,i<np->Dg (Pv i).L ((Pv i).n+1) w5 (fun b=>w3.heap.size<=b/\b≠zb) (vs i) 0 (Pv i).n):=fun i hi=>(R4.out i hi).below hb5
 have U5:=hxy hc5;have c0:w5.cell? (Va ub 0)=some (Vi 0):=hc5.2 0 (by simp);clear hw5 hb5 hc5 hub B4 HS4 A4 R4;go_wp2_with fail;refine(Im 1 w5 (T2.out w5 B5.out)).mono ?_;rintro e w6⟨kb,nb,ob,mb,rfl,sc,hb6,lk,lnb,lmb,_,_,_,_,_,_⟩;have B6:=hxy (B5.out.trans (hb6.mono B5.out.size));have HS6:=hxy (HS5.out.below hb6);have A6:=hxy (A5.out.below hb6 A5.out.lt);have R6:Hid (∀i,i<np->Dg (Pv i).L ((Pv i).n+1) w6 (fun b=>w3.heap.size<=b/\b≠zb) (vs i) 0 (Pv i).n):=fun i hi=>(R5.out i hi).below hb6
 have U6:=hxy (U5.out.below hb6);have SC6:=hxy sc;have TB6:Hid (TB w6.heap.size w6):=⟨Lib.tabBelow_of_tabIs (T1.out w6 B6.out),Lib.tabBelow_of_tabIs (T2.out w6 B6.out)⟩
 clear hb6 sc c0 B5 HS5 A5 R5 U5;go_upto_region 7 with fail;obtain⟨w7,hw7,hb7,P7'⟩:∃y,w6.alloc (.cells #[.slice none 0 0,Vq kb] 63)=y/\Below w6.heap.size w6 y/\PW w6.heap.size kb (.slice none 0 0) [] y:=⟨_,rfl,Ak,by simp[go_sem],by simp[go_sem],by simp,fun i=>by simp[go_sem],World.ownsRow_nil _ _ _ _⟩
 rw[hw7];obtain⟨pb,hpb⟩:=Ae w6.heap.size;have B7:=hxy hb7;rw[hpb]at P7' lk lnb lmb TB6 hb7⊢;have P7:=hxy P7';have HPB:=hxy hpb;have lt7:=P7'.lt;obtain⟨q0,q1,q2,q3⟩:=JF (HS6.out.below B7.out);clear hw7 hb7 P7' hpb;obtain⟨dw,hdw⟩:∃x:List UInt8,(if d=1 then[109,97,115,109]else[103,97,115])=x:=⟨_,rfl⟩
 have HDW:=hxy hdw;have HDL:Hid (Ir [bs [100,105,97,108,101,99,116],bs dw]=Ea d):=(by rw[<-hdw];exact Wo d HD.out:Ir [bs [100,105,97,108,101,99,116],bs dw]=Ea d)
 clear hdw;go_wp2_with fail;refine(Wm d w7 HD.out (TB6.out.a _ (HPB.out▸B7.out))).mono ?_;rintro e w8⟨rfl,hb8⟩;rw[HDW.out];have P8:=hxy (P7.out.below hb8);have B8:=hxy (B7.out.trans (hb8.mono B7.out.size));clear hb8 q0 q1 q2 q3 B7 P7;go_wp2_with fail;refine(Cx pb kb (.slice none 0 0) [] [bs [100,105,97,108,101,99,116],bs dw] w8 P8.out (by simp) (by rw[HDL.out];have:=Oi d;omega) (by simp)).mono ?_;rintro e w9⟨rfl,v9,n1,n2⟩;rw[HDL.out,List.nil_append]at n1;have P9:=hxy n1;have B9:Hid (Below w6.heap.size w6 w9):=B8.out.trans (HPB.out▸n2.b);clear n1 n2 P8 B8;obtain⟨q0,q1,q2,q3⟩:=JF (HS6.out.below B9.out);go_wp2_with fail;clear q0 q1 q2 q3;obtain⟨T0,hT0⟩:=Ae (Ea d);have HT0:=hxy hT0;rw[hT0]at P9;clear hT0;go_loopw [43](fun iv wr=>∃(k:Nat)(v:Value),k<=nH/\iv=Vi (k:Int)/\PW pb kb v (T0++EF (fun i=>heapT (S i)) k) wr/\Below w6.heap.size w6 wr)(fun iv _=>nH-(intOf iv).toNat)
 case atStart=>exact⟨0,v9,Nat.zero_le _,rfl,by simpa[EF]using P9.out,B9.out⟩
 case round=>
  obtain⟨k,v,hk,rfl,hp,hb⟩:=hrel;have P:=hxy hp;have B:=hxy hb;have ltr:=hp.lt;have htl:(T0++EF (fun i=>heapT (S i)) k).length<=6100000:=by
   have:=G.out.len d hk (Nat.zero_le 8) (Nat.zero_le np);rw[HT0.out]at this;simp only[EF,List.append_nil]at this;exact this
  clear hp hb;by_cases hlt:k<nH
  rotate_left
  ·have hkn:nH=k:=by omega
   subst hkn;have hlt':¬(nH:Int)<(nH:Int):=by omega
   obtain⟨T1',hT1⟩:=Ae (T0++EF (fun i=>heapT (S i)) nH);rw[hT1]at P;have HT1:=hxy hT1;clear hT1 htl hlt hk P9 B9;obtain⟨q0,q1,q2,q3⟩:=JF (HS6.out.below B.out);go_wp2_with fail;clear q0 q1 q2 q3;go_loopw [64](fun iv wr=>∃(k:Nat)(v:Value),k<=8/\iv=Vi (k:Int)/\PW pb kb v (T1'++EF (fun i=>Db i (V i)) k) wr/\Below w6.heap.size w6 wr)(fun iv _=>8-(intOf iv).toNat)
   case atStart=>exact⟨0,v,Nat.zero_le _,rfl,by simpa[EF]using P.out,B.out⟩
   case round=>
    clear P B hlt' ltr;obtain⟨k,v,hk,rfl,hp,hb⟩:=hrel;have P:=hxy hp;have B:=hxy hb;have ltr:=hp.lt;have htl:(T1'++EF (fun i=>Db i (V i)) k).length<=6100000:=by
     have:=G.out.len d (Nat.le_refl nH) hk (Nat.zero_le np);rw[HT0.out,HT1.out]at this;simp only[EF,List.append_nil]at this;exact this
    clear hp hb;by_cases hlt:k<8
    rotate_left
    ·have hkn:k=8:=by omega
     subst hkn;have hlt':¬((8:Nat):Int)<(8:Int):=by omega
     obtain⟨T2',hT2⟩:=Ae (T1'++EF (fun i=>Db i (V i)) 8);rw[hT2]at P;have HT2:=hxy hT2;clear hT2 htl hlt hk;have c3:wr.cell? (Va ub 3)=some (Vs gt np ct):=(U6.out.below B.out).2 3 (by simp);go_wp2_with fail;clear c3;go_loopw [77](fun iv wr=>∃(k:Nat)(v:Value),k<=np/\iv=Vi (k:Int)/\PW pb kb v (T2'++EF (fun i=>EB (Pv i)) k) wr/\Below w6.heap.size w6 wr)(fun iv _=>np-(intOf iv).toNat)
     case atStart=>exact⟨0,v,Nat.zero_le _,rfl,by simpa[EF]using P.out,B.out⟩
     case round=>
      clear P B hlt' ltr;obtain⟨k,v,hk,rfl,hp,hb⟩:=hrel;have P:=hxy hp;have B:=hxy hb;have ltr:=hp.lt;have htl:(T2'++EF (fun i=>EB (Pv i)) k).length<=6100000:=by
       have:=G.out.len d (Nat.le_refl nH) (Nat.le_refl 8) hk;rw[HT0.out,HT1.out,HT2.out]at this;exact this
      clear hp hb;by_cases hlt:k<np
      rotate_left
      ·have hkn:np=k:=by omega
       subst hkn;have hlt':¬(np:Int)<(np:Int):=by omega
       have hRT:T2'++EF (fun i=>EB (Pv i)) np=R:=by
        rw[<-HR.out,<-HT2.out,<-HT1.out,<-HT0.out];rfl
       obtain⟨aov,kv,cv,hvv⟩:=Cw P.out.O;subst hvv;have q0:=P.out.C;have O9:Hid (wr.ownsRow w.heap.size 5 1 (.slice aov kv cv) R.length (Lib.byteCells R)):=(by
        have h:=P.out.O;rw[hRT]at h;exact Yi h (by have:=B6.out.size;have:=HPB.out;omega):wr.ownsRow w.heap.size 5 1 (.slice aov kv cv) R.length (Lib.byteCells R))
       have B9:=hxy (B6.out.trans (B.out.mono B6.out.size));clear hlt htl hRT P B;go_wp2_with fail;go_ret;exact⟨_,rfl,O9.out,B9.out⟩
      have hlt':(k:Int)<(np:Int):=by omega
      obtain⟨aov,kv,cv,hvv⟩:=Dg.shape _ (R6.out k hlt);have g0:=(A6.out.below B.out A6.out.lt).2 k hlt;rw[hvv,Nat.zero_add]at g0;obtain⟨n5,hck⟩:=G.out.ps k hlt;have HAP:Hid (Nb w6 pb kb (Pv k).L 0 (Pv k).n (.slice aov kv cv)):=(by
       rw[<-hvv];exact YK w6 pb kb nb ob mb (Pv k).L (k:Int) (np:Int) 16 _ (Nat.le_of_eq HPB.out) SC6.out lk lnb lmb TB6.out (by omega) _ 0 (Pv k).n 0 (vs k) (R6.out k hlt) (Nat.zero_le _) n5 hck:Nb w6 pb kb (Pv k).L 0 (Pv k).n (.slice aov kv cv))
      have HN5:=hxy n5;clear hck n5 hvv;go_wp2_with fail;refine(Cx pb kb v (T2'++EF (fun i=>EB (Pv i)) k) [bs [112,114,111,99]] wr P.out (by simp) (by rw[Ny];simp) (by omega)).mono ?_;rintro e y1⟨rfl,v1,n1,n2⟩;rw[Ny]at n1;obtain⟨t1,ht1⟩:=Ae (T2'++EF (fun i=>EB (Pv i)) k++([112,114,111,99]++[10]));rw[ht1]at n1;have HT3:=hxy ht1;have l1:t1.length<=6100010:=by rw[<-ht1,List.length_append];simp only[List.length_append,List.length_cons,List.length_nil]at htl⊢;omega
      have P1:=hxy n1;have D1:Hid (Below w6.heap.size w6 y1):=B.out.trans (HPB.out▸n2.b);clear n1 n2 ht1 g0;go_wp2_with fail;refine(HAP.out y1 v1 t1 (HPB.out▸D1.out) P1.out (by have:=HN5.out;omega)).mono ?_;rintro e y2⟨rfl,v',n1,n2⟩;have N1:Hid (PW pb kb v' (T2'++EF (fun i=>EB (Pv i)) (k+1)) y2):=(by
       rw[<-HT3.out]at n1;rw[List.append_assoc,List.append_assoc]at n1;exact n1:PW pb kb v' (T2'++EF (fun i=>EB (Pv i)) (k+1)) y2)
      have N2:Hid (Below w6.heap.size w6 y2):=D1.out.trans (HPB.out▸n2.b);clear n1 n2 P1 D1;go_wp2_with fail;go_roundw
      case rel=>exact⟨k+1,v',by omega,by go_num,N1.out,N2.out⟩
      case measure=>simp[intOf];omega
    have hlt':(k:Int)<8:=by omega
    obtain⟨g0,g1,g2,g3,g4,g5⟩:=fC (HS6.out.below B.out).s.r hlt;have HG:=hxy (G.out.rs k hlt);go_upto_region 16 with fail;clear g0 g1 g2 g3 g4 g5;obtain⟨u,hu,hbu,hcu⟩:∃x,wr.alloc (.cells #[Vi (V k).k,.bool (V k).s,Vi (V k).m,Vi (V k).h,Vi (V k).lo,Vi (V k).hi] 42)=x/\Below wr.heap.size wr x/\x.heap[wr.heap.size]?=some (.cells #[Vi (V k).k,.bool (V k).s,Vi (V k).m,Vi (V k).h,Vi (V k).lo,Vi (V k).hi] 42):=⟨_,rfl,Ak,EX _ _⟩
    rw[hu];have P1:=hxy (P.out.below hbu);have D1:=hxy (B.out.trans (hbu.mono B.out.size));have c0:=Ab hcu 0;have c1:=Ab hcu 1;have c2:=Ab hcu 2;have c3:=Ab hcu 3;have c4:=Ab hcu 4;have c5:=Ab hcu 5;clear hu hbu hcu P;go_wp2_with fail;refine(UH pb kb v (T1'++EF (fun i=>Db i (V i)) k) k (V k) u P1.out (TB6.out.on (HPB.out▸D1.out)) hlt h8 HG.out (by omega)).mono ?_;rintro e y9⟨rfl,v',n1,n2⟩;rw[List.append_assoc]at n1;have N1:=hxy n1;have N2:Hid (Below w6.heap.size w6 y9):=D1.out.trans (HPB.out▸n2.b);clear n1 n2 c0 c1 c2 c3 c4 c5;go_wp2_with fail;go_roundw
    case rel=>exact⟨k+1,v',by omega,by go_num,N1.out,N2.out⟩
    case measure=>simp[intOf];omega
  have hlt':(k:Int)<(nH:Int):=by omega
  obtain⟨g0,g1,g2⟩:=au (HS6.out.below B.out).s.h hlt;have hsm:=G.out.hs k hlt;have HHL:Hid ((heapT (S k)).length<=40):=Ol _ (by omega);go_upto_region 11 with fail;clear g0 g1 g2;obtain⟨u,hu,hbu,hcu⟩:∃y,wr.alloc (.cells #[Vi (S k).size,.bool (S k).s,.bool (S k).w] 40)=y/\Below wr.heap.size wr y/\y.heap[wr.heap.size]?=some (.cells #[Vi (S k).size,.bool (S k).s,.bool (S k).w] 40):=⟨_,rfl,Ak,EX _ _⟩
  rw[hu];obtain⟨xb,hxb⟩:=Ae wr.heap.size;rw[hxb]at hcu⊢;have lxb:pb<xb:=by omega
  have P1:=hxy (P.out.below hbu);have B0:=hxy (B.out.trans (hbu.mono B.out.size));have XU:u.heap[xb]?=some (.cells #[Vi (S k).size,.bool (S k).s,.bool (S k).w] 40):=hcu;have r0:∀w':World,w'.heap[xb]?=some (.cells #[Vi (S k).size,.bool (S k).s,.bool (S k).w] 40)->w'.cell? (Va xb 0)=some (Vi (S k).size):=fun w' h=>Ab h 0
  have r1:∀w':World,w'.heap[xb]?=some (.cells #[Vi (S k).size,.bool (S k).s,.bool (S k).w] 40)->w'.cell? (Va xb 1)=some (.bool (S k).s):=fun w' h=>Ab h 1
  have r2:∀w':World,w'.heap[xb]?=some (.cells #[Vi (S k).size,.bool (S k).s,.bool (S k).w] 40)->w'.cell? (Va xb 2)=some (.bool (S k).w):=fun w' h=>Ab h 2
  obtain⟨mw,hmw⟩:∃x:List UInt8,(if(S k).w=true then[119,114,105,116,101]else[114,101,97,100])=x:=⟨_,rfl⟩
  have HMW:=hxy hmw;have HLN:Hid (Ir [bs [104,101,97,112],bs (Lib.itoa (S k).size),bs (CP (S k).s),bs mw]=heapT (S k)):=(by rw[<-hmw];exact WH _:Ir [bs [104,101,97,112],bs (Lib.itoa (S k).size),bs (CP (S k).s),bs mw]=heapT (S k))
  clear hu hbu hcu hxb hmw P;refine wp_region_held_drew (S:=fun w'=>w'.heap[xb]?=some (.cells #[Vi (S k).size,.bool (S k).s,.bool (S k).w] 40)) (by kernel_rfl) XU (fun _=>?_);refine AB 0 rfl ?_;refine AB 1 rfl ?_;refine AB 2 rfl ?_;refine AB 4 rfl ?_;refine AB 5 rfl ?_;refine AB 7 rfl ?_;refine AB 8 rfl ?_;obtain⟨x0,hx0,hbd,XV⟩:∃y,u.drew=y/\Below u.heap.size u y/\y.heap[xb]?=some (.cells #[Vi (S k).size,.bool (S k).s,.bool (S k).w] 40):=⟨_,rfl,(Below.refl _ _).drew,XU⟩
  rw[hx0];have P2:=hxy (P1.out.below hbd);have D0:=hxy (B0.out.trans (hbd.mono B0.out.size));have X0:=hxy XV;clear hx0 hbd XV XU P1 B0;refine AO 3 rfl (fun KK hK=>?_);go_simp;refine(Cj (S k).size (by omega) _ (TB6.out.p _ (HPB.out▸D0.out))).mono ?_;rintro e x1⟨rfl,hb⟩;have P3:=hxy (P2.out.below hb);have D1:=hxy (D0.out.trans (hb.mono D0.out.size));have X1:Hid (x1.heap[xb]?=some (.cells #[Vi (S k).size,.bool (S k).s,.bool (S k).w] 40)):=(hb.block xb (jH.1 X0.out).1).trans X0.out;refine hK.out _ _ X1.out (fun _=>?_);clear hK KK hb P2 D0 X0;try simp only[Act.put,BP,BN,BK,BQ,BS,BM]
  refine AO 6 rfl (fun KK hK=>?_);go_simp;refine(JN (S k).s _ (TB6.out.a _ (HPB.out▸D1.out))).mono ?_;rintro e x2⟨rfl,hb⟩;have P4:=hxy (P3.out.below hb);have D2:=hxy (D1.out.trans (hb.mono D1.out.size));have X2:Hid (x2.heap[xb]?=some (.cells #[Vi (S k).size,.bool (S k).s,.bool (S k).w] 40)):=(hb.block xb (jH.1 X1.out).1).trans X1.out;refine hK.out _ _ X2.out (fun _=>?_)
  clear hK KK hb P3 D1 X1
  try simp only[Act.put,BP,BN,BK,BQ,BS,BM]
  refine AO 9 rfl (fun KK hK=>?_)
  go_simp
  refine(Vm (S k).w _ (TB6.out.a _ (HPB.out▸D2.out))).mono ?_
  rintro e x3⟨rfl,hb⟩
  rw[HMW.out]
  have P5:=hxy (P4.out.below hb)
  have D3:=hxy (D2.out.trans (hb.mono D2.out.size))
  have X3:Hid (x3.heap[xb]?=some (.cells #[Vi (S k).size,.bool (S k).s,.bool (S k).w] 40)):=(hb.block xb (jH.1 X2.out).1).trans X2.out
  refine hK.out _ _ X3.out (fun _=>?_)
  clear hK KK hb P4 D2 X2
  try simp only[Act.put,BP,BN,BK,BQ,BS,BM]
  refine AO 10 rfl (fun KK hK=>?_)
  go_simp
  obtain⟨x9,hx9,hb9,hf9⟩:∃y,x3.alloc (.cells ([bs [104,101,97,112],bs (Lib.itoa (S k).size),bs (CP (S k).s),bs mw].map Value.string).toArray 9)=y/\Below x3.heap.size x3 y/\(∀(j:Nat)q,[bs [104,101,97,112],bs (Lib.itoa (S k).size),bs (CP (S k).s),bs mw][j]?=some q->y.cell? ⟨x3.heap.size,j,none⟩=some (.string q)):=⟨_,rfl,Ak,FL _ _⟩
  have zbx:x3.heap.size<x9.heap.size:=by rw[<-hx9];simp
  show KK _ (x3.alloc (.cells ([bs [104,101,97,112],bs (Lib.itoa (S k).size),bs (CP (S k).s),bs mw].map Value.string).toArray 9))
  rw[hx9]
  have X9:Hid (x9.heap[xb]?=some (.cells #[Vi (S k).size,.bool (S k).s,.bool (S k).w] 40)):=(hb9.block xb (jH.1 X3.out).1).trans X3.out
  have P6:=hxy (P5.out.below hb9)
  have D9:=hxy (D3.out.trans (hb9.mono D3.out.size))
  have F9:Hid _:=hf9
  refine hK.out _ _ X9.out (fun _=>?_)
  clear hK KK hb9 hf9 hx9
  try simp only[Act.put,BP,BN,BK,BQ,BS,BM]
  refine AO 11 rfl (fun KK hK=>?_)
  go_simp
  refine(Em pb kb v (T0++EF (fun i=>heapT (S i)) k) x3.heap.size 4 [bs [104,101,97,112],bs (Lib.itoa (S k).size),bs (CP (S k).s),bs mw] x9 P6.out F9.out zbx (by simp) (by simp) (by rw[HLN.out];have:=HHL.out;omega) (by omega)).mono ?_
  rintro e y9⟨rfl,v',n1,n2⟩
  rw[HLN.out,List.append_assoc]at n1
  have N1:=hxy n1
  have N2:Hid (Below w6.heap.size w6 y9):=D9.out.trans (HPB.out▸n2.b)
  refine hK.out _ _ (n2.cl X9.out (by omega) (by decide)) (fun _=>?_)
  clear hK KK n1 n2
  try simp only[Act.put,BP,BN,BK,BQ,BS,BM]
  refine wpAnyH_done (by kernel_rfl) ?_ _
  go_wp2_with fail
  go_roundw
  case rel=>exact⟨k+1,v',by omega,by go_num,N1.out,N2.out⟩
  case measure=>simp[intOf];omega
theorem RV(bH cH nH:Nat)(S:Nat->HS)(bR cR nR:Nat)(V:Nat->VV)(bp np cp:Nat)(Pv:Nat->PV)(blk:Nat->Nat)(d:Int)(w:World)(lH:nH<=1048576)(lR:nR<=1048576)(ln:np<=1048576)(lb:∀i,i<np->(Pv i).n<=1048576)(h1:Bl w bH nH S bR nR V)(h2:TP w bp np Pv blk)(ht1:Lib.TabIs Tryz.prog w "internal/strconv.uint64pow10" .u64 Lib.pow10Tab)(ht2:Lib.TabIs Tryz.prog w "strings.asciiSpace" .u8 Lib.asciiSpaceTab):
 Calls Tryz.prog 5 #[.agg #[Vi d,Vs bH nH cH,Vs bR nR cR,Vs bp np cp]] w fun e w'=>∃v,e=.returned v/\w'.ownsRow w.heap.size 5 1 v (if EW d nH S nR V np Pv=true then JD d nH S V np Pv else[]).length (Lib.byteCells (if EW d nH S nR V np Pv=true then JD d nH S V np Pv else[]))/\Below w.heap.size w w':=by
 cases h:EW d nH S nR V np Pv with
 |true=>rw[if_pos rfl];exact UJ bH cH nH S bR cR nR V bp np cp Pv blk d w lH lR ln lb h1 h2 h ht1 ht2
 |false=>rw[if_neg (by decide)];exact Rx bH cH nH S bR cR nR V bp np cp Pv blk d w lH lR ln lb h1 h2 h
end Go.Proofs.YtfpeecaaleijcaaGreatDoor
