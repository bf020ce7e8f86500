import Derived.Test.YtkckomianknjdaaGreatOfCoreF
import Derived.Test.YtkckomianknjdaaGreatOfSpecI64
set_option maxHeartbeats 40000000
set_option maxRecDepth 1000000
namespace Go.Proofs.YtkckomianknjdaaGreat
open Go.RowKit
theorem L9{w F wc:World}{l:Nat}{p:Pl}{M:MV}(h0:Mem w l p M)(D:M.Ok)(kv:Int)(wi d a b h:Nat)(cV:Int)(hd:d<8)(ha:a<8)(hb:b<8)(hn:M.nO<=1048576)(bA:MV)(A:Int)
 (hE:bA=match Ca false wi A d h M 0 with
   |.inl (M',_)=>M'
   |.inr M'=>M'.fault)(ed:0<=A)(ee:A<=18446744073709551615)(d6:1<=wi)(d7:wi<=8)(b0:Below w.heap.size w F)(z0:F.heap.size=w.heap.size+3)
 (XM:F.ownsRow w.heap.size 28 9 (.slice (some ⟨w.heap.size,0,none⟩) 1 1) 1 [.slice (some ⟨p.bR,0,none⟩) 8 p.cR,.bool M.z,.bool M.c,.bool M.hz,.bool M.hc,.slice p.aH M.nH p.cH,.int .i64 M.pc,.int .i64 M.st,.slice p.aO M.nO p.cO])
 (XI:F.ownsRow w.heap.size 85 6 (.slice (some ⟨w.heap.size+1,0,none⟩) 1 1) 1 [.int .i64 kv,.int .i64 d,.int .i64 a,.int .i64 b,.int .i64 cV,.int .i64 h])
 (XZ:F.ownsRow w.heap.size 28 9 (.slice (some ⟨w.heap.size+1+1,0,none⟩) 1 1) 1 [.slice none 0 0,.bool false,.bool false,.bool false,.bool false,.slice none 0 0,.int .i64 0,.int .i64 0,.slice none 0 0])
 (B9:Below F.heap.size F wc)(z9:wc.heap.size=F.heap.size){u12 u13 u14 u15 u16 u17 u18 u19 u20 u21 u22 u23 u24 u25 u26 u27 u28 u29 u30 u31 u32 u33 u34 u35 u36 u37 u38 u39 u40 u41 u42 u43 u44 u45 u46 u47 u48 u49 u50 u51 u52 u53 u54 u55 u56 u57 u58 u59 u60 u61 u62 u63 u64 u65 u66 u67 u68 u69 u70 u71 u72 u73 u74 u75 u76 u77 u78 u79 u80 u81 u82 u83 u84 u85 u86 u87 u88 u89 u90 u91 u92 u93 u94 u95 u96 u97 u98 u99 u100 u101 u102 u103 u104 u105 u106 u107 u108 u109 u110 u111 u112 u113 u114 u115 u116 u117 u118 u119 u120 u121 u122 u123 u124 u125 u126 u127 u128 u129 u130 u131 u132 u133 u134 u135 u136 u137 u138 u139 u140 u141 u142 u143 u144 u145 u146 u147 u148 u149 u150 u151 u152 u153 u154 u155 u156 u157 u158 u159 u160 u161 u162 u163 u164 u165 u166 u167 u168 u169 u170 u171 u172 u173 u174 u175 u176:Value}:
 Code.wp Tryz.prog (jD Tryz.f75) (bodyPost Tryz.prog Tryz.f75 (fun e O=>PG l w (bA) e O/\∀k,k<w.heap.size->Off p M.nH M.nO k->O.heap[k]?=w.heap[k]?))
  ⟨#[.agg #[.slice (some ⟨p.bR,0,none⟩) 8 p.cR,.bool M.z,.bool M.c,.bool M.hz,.bool M.hc,.slice p.aH M.nH p.cH,.int .i64 M.pc,.int .i64 M.st,.slice p.aO M.nO p.cO],.agg #[.int .i64 kv,.int .i64 d,.int .i64 a,.int .i64 b,.int .i64 cV,.int .i64 h],.pointer (some ⟨w.heap.size,0,none⟩),.pointer (some ⟨w.heap.size+1,0,none⟩),.pointer (some ⟨w.heap.size+1+1,0,none⟩),.int .u64 A,.int .u64 wi,.bool false,undef,undef,undef,undef,u12,u13,u14,u15,u16,u17,u18,u19,u20,u21,u22,u23,u24,u25,u26,u27,u28,u29,u30,u31,u32,u33,u34,u35,u36,u37,u38,u39,u40,u41,u42,u43,u44,u45,u46,u47,u48,u49,u50,u51,u52,u53,u54,u55,u56,u57,u58,u59,u60,u61,u62,u63,u64,u65,u66,u67,u68,u69,u70,u71,u72,u73,u74,u75,u76,u77,u78,u79,u80,u81,u82,u83,u84,u85,u86,u87,u88,u89,u90,u91,u92,u93,u94,u95,u96,u97,u98,u99,u100,u101,u102,u103,u104,u105,u106,u107,u108,u109,u110,u111,u112,u113,u114,u115,u116,u117,u118,u119,u120,u121,u122,u123,u124,u125,u126,u127,u128,u129,u130,u131,u132,u133,u134,u135,u136,u137,u138,u139,u140,u141,u142,u143,u144,u145,u146,u147,u148,u149,u150,u151,u152,u153,u154,u155,u156,u157,u158,u159,u160,u161,u162,u163,u164,u165,u166,u167,u168,u169,u170,u171,u172,u173,u174,u175,u176],[]⟩ wc:=by
 have ej:(d:Int)<8:=AB;have eg:(a:Int)<8:=AB;have eh:(b:Int)<8:=AB;have ra:=h0.reg ha;have rb:=h0.reg hb;have rd:=h0.reg hd;have fd:=h0.freeR d;have zR:=h0.ltR.2;have pa:=D.reg a ha;have pb:=D.reg b hb;obtain⟨er,et⟩:=pa;obtain⟨eu,ev⟩:=pb;have dB:=hxy D.heap;have dx:=hxy D.dat;have pd:=D.reg d hd;obtain⟨ew,ey⟩:=pd;have H0:=hxy h0;clear h0 D;obtain⟨m0,m1,m2,m3,m4,m5,m6,m7,m8⟩:=BX XM;obtain⟨i0,i1,i2,i3,i4,i5⟩:=Gc XI;obtain⟨s0,s1,s2,s3,s4,s5,s6,s7,s8⟩:=BX XZ;have mf:∀i,F.frozen? ⟨w.heap.size,i,none⟩=false:=fun i=>XM.frozenAt i
 have sf:∀i,F.frozen? ⟨w.heap.size+1+1,i,none⟩=false:=fun i=>XZ.frozenAt i
 have ds:=(b0.cell (p:=⟨p.bR,a,none⟩) zR).trans ra;have dT:=(b0.cell (p:=⟨p.bR,b,none⟩) zR).trans rb;have du:=(b0.cell (p:=⟨p.bR,d,none⟩) zR).trans rd;have dk:=(b0.frozen (p:=⟨p.bR,d,none⟩) zR).trans fd;have db:p.bR<F.heap.size:=AB;have y0:w.heap.size<F.heap.size:=AB;have y1:w.heap.size+1<F.heap.size:=AB;have y2:w.heap.size+1+1<F.heap.size:=AB;have n0:p.bR≠w.heap.size:=AB;have n1:p.bR≠w.heap.size+1:=AB;have n2:p.bR≠w.heap.size+1+1:=AB;have cG:=hxy b0;have dh:=hxy XM;have di:=hxy XZ;clear b0 XM XI XZ ra rb rd fd;have df:=hxy (H0.below cG);have Y:Hid (l<=F.heap.size):=by have:=H0.ltR;show l<=F.heap.size;omega
 have no:∀k,w.heap.size<=k->some k≠(Value.slice p.aO M.nO p.cO).ownBlock:=fun k D q=>by have:=(H0.obs.lt k q.symm).2;omega
 have cM:Hid (some w.heap.size≠(Value.slice p.aO M.nO p.cO).ownBlock):=no _ (Nat.le_refl _);have cN:Hid (some (w.heap.size+1+1)≠(Value.slice p.aO M.nO p.cO).ownBlock):=no _ AB;have dM:Hid (some (w.heap.size+1)≠(Value.slice p.aO M.nO p.cO).ownBlock):=no _ AB;have cP:Hid (some p.bR≠(Value.slice p.aO M.nO p.cO).ownBlock):=CU (Ae H0.regs H0.obs Aa);have bO:Hid _:=hE;clear no hE;have cI:=hxy B9;conv=>arg 2;whnf
 have dS:=c9b cI y0 m0 m1 m2 m3 m4 m5 m6 m7 m8;have eC:w.heap.size<wc.heap.size:=AB;go_wp2_with fail;have cK:=hxy (df.below cI);refine(Hw l (first (M.nO*2) (CR M.K M.V)) _ _ _ _ _ _ _ _ _ _ _ _ p.aO M.nO p.cO 1 A wc hn (by have:=Y.out;omega) cK.obs).mono ?_;rintro e wz⟨g,cp,rfl,oc,gc⟩;have bL:∀k o,k<F.heap.size->some k≠(Value.slice p.aO M.nO p.cO).ownBlock->wz.cell? ⟨k,o,none⟩=F.cell? ⟨k,o,none⟩:=fun k o h1 h2=>(World.cell?_of_block (gc.block k AB h2)).trans (B9.cell (p:=⟨k,o,none⟩) h1)
 have b5:∀k o,k<F.heap.size->some k≠(Value.slice p.aO M.nO p.cO).ownBlock->wz.frozen? ⟨k,o,none⟩=F.frozen? ⟨k,o,none⟩:=fun k o h1 h2=>(World.frozen?_of_block (gc.block k AB h2)).trans (B9.frozen (p:=⟨k,o,none⟩) h1)
 have zc:F.heap.size<=wz.heap.size:=by have:=gc.size;omega
 have gM:g≠w.heap.size:=by
  have:=CU (Ae oc ((Am dh B9).kept gc (.inr cM)) Aa);simpa[Value.ownBlock]using this
 have gZ:g≠w.heap.size+1+1:=by
  have:=CU (Ae oc ((Am di B9).kept gc (.inr cN)) Aa);simpa[Value.ownBlock]using this
 have dy:=hxy gM;have dz:=hxy gZ;have dF:=hxy (cK.see oc gc);have dv:Hid (Below l w wz):=((cG.mono (Nat.le_of_lt (Nat.lt_of_le_of_lt H0.ltR.1 H0.ltR.2))).trans (B9.mono Y)).trans (Al.grown gc (by have:=Y.out;omega) (fun k D=>(H0.obs.lt k D).1));have dD:Hid (∀k,k<w.heap.size->Off p M.nH M.nO k->wz.heap[k]?=w.heap[k]?):=fun k D L=>(gc.block k AB (fun e=>L.o e.symm)).trans ((B9.block k AB).trans (cG.block k D))
 have dt:=(bL _ _ db cP).trans ds;have cX:=(bL _ _ db cP).trans du;have cQ:=(b5 _ _ db cP).trans dk;have eI:p.bR<wz.heap.size:=AB;have d9:w.heap.size<wz.heap.size:=AB;have ea:w.heap.size+1<wz.heap.size:=AB;have eb:w.heap.size+1+1<wz.heap.size:=AB;obtain⟨e0,e1,e2,e3,e4,e5,e6,e7,e8⟩:=Zk (fun o=>bL _ o y0 cM) m0 m1 m2 m3 m4 m5 m6 m7 m8;obtain⟨x0,x1,x2,x3,x4,x5⟩:=jV (fun o=>bL _ o y1 dM) i0 i1 i2 i3 i4 i5;obtain⟨t0,t1,t2,t3,t4,t5,t6,t7,t8⟩:=Zk (fun o=>bL _ o y2 cN) s0 s1 s2 s3 s4 s5 s6 s7 s8;have dr:∀i,wz.frozen? ⟨w.heap.size,i,none⟩=false:=fun i=>(b5 _ i y0 cM).trans (mf i)
 have cZ:∀i,wz.frozen? ⟨w.heap.size+1+1,i,none⟩=false:=fun i=>(b5 _ i y2 cN).trans (sf i)
 clear m0 m1 m2 m3 m4 m5 m6 m7 m8 i0 i1 i2 i3 i4 i5 s0 s1 s2 s3 s4 s5 s6 s7 s8 mf sf du dk ds dT oc gc bL b5 gM gZ dh di B9 cK df dS cI;have dH:Hid (Off {p with aO:=some ⟨g,0,none⟩,cO:=cp} M.nH (M.nO+1) w.heap.size):=Gi (M:=M.see 1 A) H0 rfl (Nat.le_refl _) dy cp;have bP:Hid (Off {p with aO:=some ⟨g,0,none⟩,cO:=cp} M.nH (M.nO+1) (w.heap.size+1+1)):=Gi (M:=M.see 1 A) H0 rfl (show w.heap.size<=w.heap.size+1+1 by omega) dz cp;have s:∃m,(((((((((wz.setCell ⟨w.heap.size,0,none⟩ (.slice (some ⟨p.bR,0,none⟩) 8 p.cR)).setCell ⟨w.heap.size,1,none⟩ (.bool M.z)).setCell ⟨w.heap.size,2,none⟩ (.bool M.c)).setCell ⟨w.heap.size,3,none⟩ (.bool M.hz)).setCell ⟨w.heap.size,4,none⟩ (.bool M.hc)).setCell ⟨w.heap.size,5,none⟩ (.slice p.aH M.nH p.cH)).setCell ⟨w.heap.size,6,none⟩ (.int .i64 M.pc)).setCell ⟨w.heap.size,7,none⟩ (.int .i64 M.st)).setCell ⟨w.heap.size,8,none⟩ (.slice (some ⟨g,0,none⟩) (M.nO+1) cp))=m:=⟨_,rfl⟩
 obtain⟨m,s⟩:=s;have bZ:=hxy s;have bX:Hid (Mem m l {p with aO:=some ⟨g,0,none⟩,cO:=cp} (M.see 1 A)):=by
  rw[<-s];iterate 9 refine Mem.setOff (M:=M.see 1 A) ?_ dH _ _
  exact dF
 have dd:Hid (Below l w m):=by
  rw[<-s];iterate 9 refine Below.setCell ?_ (by simp;have:=H0.ltR;omega) _
  exact dv
 have de:Hid (∀k,k<w.heap.size->Off p M.nH M.nO k->m.heap[k]?=w.heap[k]?):=fun k D L=>by
  rw[<-s];iterate 9 rw[heap_setCell_other _ _ _ _ (show k≠w.heap.size by omega)]
  exact dD k D L
 have z5:m.heap.size=wz.heap.size:=by rw[<-s];simp
 have b9:m.cell? ⟨w.heap.size,0,none⟩=some (.slice (some ⟨p.bR,0,none⟩) 8 p.cR):=by rw[<-s];simp[go_sem,e0]
 have ca:m.cell? ⟨w.heap.size,1,none⟩=some (.bool M.z):=by rw[<-s];simp[go_sem,e1]
 have cb:m.cell? ⟨w.heap.size,2,none⟩=some (.bool M.c):=by rw[<-s];simp[go_sem,e2]
 have cc:m.cell? ⟨w.heap.size,3,none⟩=some (.bool M.hz):=by rw[<-s];simp[go_sem,e3]
 have cd:m.cell? ⟨w.heap.size,4,none⟩=some (.bool M.hc):=by rw[<-s];simp[go_sem,e4]
 have ce:m.cell? ⟨w.heap.size,5,none⟩=some (.slice p.aH M.nH p.cH):=by rw[<-s];simp[go_sem,e5]
 have cf:m.cell? ⟨w.heap.size,6,none⟩=some (.int .i64 M.pc):=by rw[<-s];simp[go_sem,e6]
 have cg:m.cell? ⟨w.heap.size,7,none⟩=some (.int .i64 M.st):=by rw[<-s];simp[go_sem,e7]
 have ch:m.cell? ⟨w.heap.size,8,none⟩=some (.slice (some ⟨g,0,none⟩) (M.nO+1) cp):=by rw[<-s];simp[go_sem,e8]
 have cw:m.cell? ⟨w.heap.size+1,0,none⟩=some (.int .i64 kv):=by rw[<-s];simp[go_sem,x0]
 have cx:m.cell? ⟨w.heap.size+1,1,none⟩=some (.int .i64 d):=by rw[<-s];simp[go_sem,x1]
 have cy:m.cell? ⟨w.heap.size+1,2,none⟩=some (.int .i64 a):=by rw[<-s];simp[go_sem,x2]
 have cz:m.cell? ⟨w.heap.size+1,3,none⟩=some (.int .i64 b):=by rw[<-s];simp[go_sem,x3]
 have cA:m.cell? ⟨w.heap.size+1,4,none⟩=some (.int .i64 cV):=by rw[<-s];simp[go_sem,x4]
 have cB:m.cell? ⟨w.heap.size+1,5,none⟩=some (.int .i64 h):=by rw[<-s];simp[go_sem,x5]
 have ck:m.cell? ⟨w.heap.size+1+1,0,none⟩=some (.slice none 0 0):=by rw[<-s];simp[go_sem,t0]
 have cm:m.cell? ⟨w.heap.size+1+1,1,none⟩=some (.bool false):=by rw[<-s];simp[go_sem,t1]
 have cn:m.cell? ⟨w.heap.size+1+1,2,none⟩=some (.bool false):=by rw[<-s];simp[go_sem,t2]
 have co:m.cell? ⟨w.heap.size+1+1,3,none⟩=some (.bool false):=by rw[<-s];simp[go_sem,t3]
 have cq:m.cell? ⟨w.heap.size+1+1,4,none⟩=some (.bool false):=by rw[<-s];simp[go_sem,t4]
 have cr:m.cell? ⟨w.heap.size+1+1,5,none⟩=some (.slice none 0 0):=by rw[<-s];simp[go_sem,t5]
 have cs:m.cell? ⟨w.heap.size+1+1,6,none⟩=some (.int .i64 0):=by rw[<-s];simp[go_sem,t6]
 have ct:m.cell? ⟨w.heap.size+1+1,7,none⟩=some (.int .i64 0):=by rw[<-s];simp[go_sem,t7]
 have cu:m.cell? ⟨w.heap.size+1+1,8,none⟩=some (.slice none 0 0):=by rw[<-s];simp[go_sem,t8]
 have cv:∀i,m.frozen? ⟨w.heap.size+1+1,i,none⟩=false:=fun i=>by rw[<-s];simp[go_sem,cZ]
 have cj:m.cell? ⟨p.bR,d,none⟩=some (.int .u64 (M.R d)):=by rw[<-s];simp[go_sem,cX]
 have b1:m.frozen? ⟨p.bR,d,none⟩=false:=by rw[<-s];simp[go_sem,cQ]
 have cC:w.heap.size<m.heap.size:=AB;have cD:w.heap.size+1<m.heap.size:=AB;have bM:w.heap.size+1+1<m.heap.size:=AB;have bN:p.bR<m.heap.size:=AB;have eG:F.heap.size<=m.heap.size:=AB;clear s z5 z9;by_cases hH:M.nH<=h
 ·go_wp2_with fail
  rw[bZ.out];clear e0 e1 e2 e3 e4 e5 e6 e7 e8 x0 x1 x2 x3 x4 x5 t0 t1 t2 t3 t4 t5 t6 t7 t8 dr cZ dt cX cQ bZ;refine(CX _ _ _ _ _ _ _ _ _ _ _ _ _ _ _ _).mono ?_;rintro e Q⟨rfl,u⟩;have cW:=c9b u cC b9 ca cb cc cd ce cf cg ch;have c6:=JY u cD cw cx cy cz cA cB;obtain⟨bC,bD,bE,bF,bG,bH,bI,bJ,bK⟩:=c9b u bM ck cm cn co cq cr cs ct cu;have c5:∀i,Q.frozen? ⟨w.heap.size+1+1,i,none⟩=false:=fun i=>(u.frozen (p:=⟨w.heap.size+1+1,i,none⟩) bM).trans (cv i)
  have cY:=(u.cell (p:=⟨p.bR,d,none⟩) bN).trans cj;have cS:=(u.frozen (p:=⟨p.bR,d,none⟩) bN).trans b1;have c7:w.heap.size<Q.heap.size:=Nat.lt_of_lt_of_le cC u.size;have c8:w.heap.size+1<Q.heap.size:=Nat.lt_of_lt_of_le cD u.size;have c9:w.heap.size+1+1<Q.heap.size:=Nat.lt_of_lt_of_le bM u.size;have dc:p.bR<Q.heap.size:=Nat.lt_of_lt_of_le bN u.size;have bw:=hxy (bX.below u);have bs:Hid (Below l w Q):=dd.trans (u.mono (by have:=Y.out;omega));have bv:Hid (∀k,k<w.heap.size->Off p M.nH M.nO k->Q.heap[k]?=w.heap[k]?):=fun k D L=>(u.block k AB).trans (de k D L)
  clear u b9 ca cb cc cd ce cf cg ch cw cx cy cz cA cB ck cm cn co cq cr cs ct cu cv cj b1;go_wp2;refine bodyPost_ret (v:=.agg #[.slice (some ⟨p.bR,0,none⟩) 8 p.cR,.bool M.z,.bool M.c,.bool M.hz,.bool M.hc,.slice p.aH M.nH p.cH,.int .i64 M.pc,.int .i64 2,.slice (some ⟨g,0,none⟩) (M.nO+1) cp]) (by simp[results,Tryz.results75,go_sem,bC,bD,bE,bF,bG,bH,bI,bJ,bK]) rfl ?_;have aT:bA=(M.see 1 A).fault:=by
   rw[bO.out];unfold Ca;rw[if_pos hH]
  rw[aT];refine⟨⟨{p with aO:=some ⟨g,0,none⟩,cO:=cp},rfl,?_,?_⟩,fun k D L=>?_⟩
  ·iterate 9 refine Below.setCell ?_ (by simp;have:=H0.ltR;omega) _
   exact bs
  ·iterate 9 refine Mem.setOff (M:=(M.see 1 A).fault) ?_ bP _ _
   exact bw.faulted
  ·iterate 9 rw[heap_setCell_other _ _ _ _ (show k≠w.heap.size+1+1 by omega)]
   exact bv k D L
 ·have hh:h<M.nH:=AB
  have ek:(h:Int)<M.nH:=AB;obtain⟨gH,b4⟩:∃gH,p.aH=some ⟨gH,0,none⟩:=by
   obtain⟨g',c',hv⟩:=FP bX.heaps (show 0<M.nH by omega);simp only[Value.slice.injEq]at hv;exact⟨g',hv.1⟩
  have cE:=bX.heaps;have aW:m.ownsRow l 76 3 (.slice (some ⟨gH,0,none⟩) M.nH p.cH) M.nH (first (M.nH*3) (CO (place M.Hp p.blk p.cap))):=by rw[<-b4];exact cE
  have eK:=(aW.lt gH rfl).2;have dQ:=dB.out h hh;have ei:=dQ;have q0:m.cell? ⟨gH,h*3,none⟩=some (.int .u64 (M.Hp h).base):=by
   have:=aW.cellAt (h*3+0) AB;rw[DF AB,FR]at this;simpa[place]using this
  have q1:m.cell? ⟨gH,h*3+1,none⟩=some (.bool (M.Hp h).wr):=by
   have:=aW.cellAt (h*3+1) AB;rw[DF AB,FQ]at this;simpa[place]using this
  have q2:m.cell? ⟨gH,h*3+2,none⟩=some (.slice (some ⟨p.blk h,0,none⟩) (M.Hp h).len (p.cap h)):=by
   have:=aW.cellAt (h*3+2) AB;rw[DF AB,Ef]at this;simpa[place]using this
  have cF:m.cell? ⟨w.heap.size,5,none⟩=some (.slice (some ⟨gH,0,none⟩) M.nH p.cH):=by rw[ce,b4]
  have bT:=hxy b4;clear cE aW ce b4;go_upto_region 9 with fail;rw[bZ.out];clear e0 e1 e2 e3 e4 e5 e6 e7 e8 x0 x1 x2 x3 x4 x5 t0 t1 t2 t3 t4 t5 t6 t7 t8 dr cZ dt cX cQ bZ;go_wp2_with fail;generalize b8:m.alloc (.cells #[.int .u64 (M.Hp h).base,.bool (M.Hp h).wr,.slice (some ⟨p.blk h,0,none⟩) (M.Hp h).len (p.cap h)] 76)=I;have b6:Bw m I:=by rw[<-b8];exact Ah
  have XH:I.ownsRow m.heap.size 76 3 (.slice (some ⟨m.heap.size,0,none⟩) 1 1) 1 [.int .u64 (M.Hp h).base,.bool (M.Hp h).wr,.slice (some ⟨p.blk h,0,none⟩) (M.Hp h).len (p.cap h)]:=by rw[<-b8];exact World.ownsRow_lit m #[.int .u64 (M.Hp h).base,.bool (M.Hp h).wr,.slice (some ⟨p.blk h,0,none⟩) (M.Hp h).len (p.cap h)] 1 (Nat.le_refl _) (by unfold maxLen;omega) rfl
  have J:m.heap.size<I.heap.size:=by rw[<-b8];simp
  have aQ:I.cell? ⟨m.heap.size,0,none⟩=some (.int .u64 (M.Hp h).base):=XH.cellAt 0 Aa;have aR:I.cell? ⟨m.heap.size,1,none⟩=some (.bool (M.Hp h).wr):=XH.cellAt 1 Aa;have aS:I.cell? ⟨m.heap.size,2,none⟩=some (.slice (some ⟨p.blk h,0,none⟩) (M.Hp h).len (p.cap h)):=XH.cellAt 2 Aa;obtain⟨aY,aZ,a0,a1,a2,a3,a4,a5,a6⟩:=c9b b6 cC b9 ca cb cc cd cF cf cg ch;obtain⟨bj,bk,bl,bm,bn,bo⟩:=JY b6 cD cw cx cy cz cA cB;obtain⟨a8,a9,ba,bb,bc,be,bf,bg,bh⟩:=c9b b6 bM ck cm cn co cq cr cs ct cu;have bi:∀i,I.frozen? ⟨w.heap.size+1+1,i,none⟩=false:=fun i=>(b6.frozen (p:=⟨w.heap.size+1+1,i,none⟩) bM).trans (cv i)
  have a7:=(b6.cell (p:=⟨p.bR,d,none⟩) bN).trans cj;have aU:=(b6.frozen (p:=⟨p.bR,d,none⟩) bN).trans b1;have bp:w.heap.size<I.heap.size:=Nat.lt_of_lt_of_le cC b6.size;have bq:w.heap.size+1<I.heap.size:=Nat.lt_of_lt_of_le cD b6.size;have aa:w.heap.size+1+1<I.heap.size:=Nat.lt_of_lt_of_le bM b6.size;have ab:p.bR<I.heap.size:=Nat.lt_of_lt_of_le bN b6.size;have bY:=hxy (bX.below b6);have bU:Hid (Below l w I):=dd.trans (b6.mono (by have:=Y.out;omega));have bW:Hid (∀k,k<w.heap.size->Off p M.nH M.nO k->I.heap[k]?=w.heap[k]?):=fun k D L=>(b6.block k AB).trans (de k D L)
  have eH:=b6.size;clear b8 b6 XH b9 ca cb cc cd cF cf cg ch cw cx cy cz cA cB ck cm cn co cq cr cs ct cu cv cj b1 q0 q1 q2;have R0:∀O,Bw I O->O.cell? ⟨m.heap.size,0,none⟩=some (.int .u64 (M.Hp h).base):=fun O h=>(h.cell (p:=⟨m.heap.size,0,none⟩) J).trans aQ
  have R1:∀O,Bw I O->O.cell? ⟨m.heap.size,1,none⟩=some (.bool (M.Hp h).wr):=fun O h=>(h.cell (p:=⟨m.heap.size,1,none⟩) J).trans aR
  have R2:∀O,Bw I O->O.cell? ⟨m.heap.size,2,none⟩=some (.slice (some ⟨p.blk h,0,none⟩) (M.Hp h).len (p.cap h)):=fun O h=>(h.cell (p:=⟨m.heap.size,2,none⟩) J).trans aS
  by_cases c1:A<(M.Hp h).base
  ·have d8:=hxy c1
   refine wp_region_held_drew (S:=fun O=>Bw I O) Ab (Al.drew) (fun hHeld=>?_);refine lM [0,1,2,3,4] ?_;refine AV 5 rfl ?_;refine BV ?_;refine AV 6 rfl ?_;refine BV ?_;refine AV 7 rfl ?_;refine BV ?_;refine AV 8 rfl ?_;refine BV ?_;refine AV 9 rfl ?_;refine BV ?_;refine AV 10 rfl ?_;refine BV ?_;refine AV 11 rfl ?_;refine BV ?_;refine lM [12,13] ?_;refine AV 14 rfl ?_;refine BV ?_;refine AV 15 rfl ?_;refine BV ?_;refine AV 17 rfl ?_;refine BV ?_;refine AV 18 rfl ?_;refine BV ?_;refine AV 19 rfl ?_;refine BV ?_;refine AV 20 rfl ?_;refine BV ?_;refine AV 16 rfl ?_;refine BV ?_;refine AV 21 rfl ?_;refine BV ?_;refine AV 22 rfl ?_;refine BV ?_;refine lM [23,24] ?_;refine AV 25 rfl ?_;refine BV ?_;refine AV 26 rfl ?_;refine BV ?_;refine AV 27 rfl ?_;refine BV ?_;refine AV 28 rfl ?_;refine BV ?_;refine AV 29 rfl ?_;refine BV ?_;refine AV 30 rfl ?_;refine BV ?_;refine Ao 31 ?_;refine wpAnyH_done Ab ?_ _;have n:Bw I I.drew:=Al.drew;generalize bB:I.drew=C at n⊢;obtain⟨ae,af,ag,ah,ai,aj,ak,al,am⟩:=c9b n bp aY aZ a0 a1 a2 a3 a4 a5 a6;obtain⟨aD,aE,aF,aG,aI,aJ⟩:=JY n bq bj bk bl bm bn bo;obtain⟨ao,ap,ar,au,av,aw,ax,ay,az⟩:=c9b n aa a8 a9 ba bb bc be bf bg bh;have aA:∀i,C.frozen? ⟨w.heap.size+1+1,i,none⟩=false:=fun i=>(n.frozen (p:=⟨w.heap.size+1+1,i,none⟩) aa).trans (bi i)
   have an:=(n.cell (p:=⟨p.bR,d,none⟩) ab).trans a7;have ac:=(n.frozen (p:=⟨p.bR,d,none⟩) ab).trans aU;have aK:w.heap.size<C.heap.size:=Nat.lt_of_lt_of_le bp n.size;have aM:w.heap.size+1<C.heap.size:=Nat.lt_of_lt_of_le bq n.size;have U:w.heap.size+1+1<C.heap.size:=Nat.lt_of_lt_of_le aa n.size;have X:p.bR<C.heap.size:=Nat.lt_of_lt_of_le ab n.size;have bS:m.heap.size<C.heap.size:=Nat.lt_of_lt_of_le J n.size;have b2:C.cell? ⟨m.heap.size,0,none⟩=some (.int .u64 (M.Hp h).base):=(n.cell (p:=⟨m.heap.size,0,none⟩) J).trans aQ;have b3:C.cell? ⟨m.heap.size,1,none⟩=some (.bool (M.Hp h).wr):=(n.cell (p:=⟨m.heap.size,1,none⟩) J).trans aR;have bQ:C.cell? ⟨m.heap.size,2,none⟩=some (.slice (some ⟨p.blk h,0,none⟩) (M.Hp h).len (p.cap h)):=(n.cell (p:=⟨m.heap.size,2,none⟩) J).trans aS;have aP:=hxy (bY.below n);have br:Hid (Below l w C):=bU.trans (n.mono (by have:=Y.out;omega));have bu:Hid (∀k,k<w.heap.size->Off p M.nH M.nO k->C.heap[k]?=w.heap[k]?):=fun k D L=>(n.block k AB).trans (bW k D L)
   have da:=n.size;clear n bB R0 R1 R2 hHeld aY aZ a0 a1 a2 a3 a4 a5 a6 bj bk bl bm bn bo a8 a9 ba bb bc be bf bg bh bi a7 aU aQ aR aS;go_wp2_with fail;refine(CX _ _ _ _ _ _ _ _ _ _ _ _ _ _ _ _).mono ?_;rintro e Q⟨rfl,u⟩;have cW:=c9b u aK ae af ag ah ai aj ak al am;have c6:=JY u aM aD aE aF aG aI aJ;obtain⟨bC,bD,bE,bF,bG,bH,bI,bJ,bK⟩:=c9b u U ao ap ar au av aw ax ay az;have c5:∀i,Q.frozen? ⟨w.heap.size+1+1,i,none⟩=false:=fun i=>(u.frozen (p:=⟨w.heap.size+1+1,i,none⟩) U).trans (aA i)
   have cY:=(u.cell (p:=⟨p.bR,d,none⟩) X).trans an;have cS:=(u.frozen (p:=⟨p.bR,d,none⟩) X).trans ac;have c7:w.heap.size<Q.heap.size:=Nat.lt_of_lt_of_le aK u.size;have c8:w.heap.size+1<Q.heap.size:=Nat.lt_of_lt_of_le aM u.size;have c9:w.heap.size+1+1<Q.heap.size:=Nat.lt_of_lt_of_le U u.size;have dc:p.bR<Q.heap.size:=Nat.lt_of_lt_of_le X u.size;have bw:=hxy (aP.below u);have bs:Hid (Below l w Q):=br.trans (u.mono (by have:=Y.out;omega));have bv:Hid (∀k,k<w.heap.size->Off p M.nH M.nO k->Q.heap[k]?=w.heap[k]?):=fun k D L=>(u.block k AB).trans (bu k D L)
   clear u ae af ag ah ai aj ak al am aD aE aF aG aI aJ ao ap ar au av aw ax ay az aA an ac;go_wp2;refine bodyPost_ret (v:=.agg #[.slice (some ⟨p.bR,0,none⟩) 8 p.cR,.bool M.z,.bool M.c,.bool M.hz,.bool M.hc,.slice (some ⟨gH,0,none⟩) M.nH p.cH,.int .i64 M.pc,.int .i64 2,.slice (some ⟨g,0,none⟩) (M.nO+1) cp]) (by simp[results,Tryz.results75,go_sem,bC,bD,bE,bF,bG,bH,bI,bJ,bK]) rfl ?_;rw[<-bT.out];have aT:bA=(M.see 1 A).fault:=by
    rw[bO.out];unfold Ca;rw[if_neg hH];have hq:(lies (M.Hp h).base A (wi:Nat) (M.Hp h).len&&(!false||(M.Hp h).wr))=false:=by
     unfold lies;simp[show¬(M.Hp h).base<=A by omega]
    rw[hq];rfl
   rw[aT];refine⟨⟨{p with aO:=some ⟨g,0,none⟩,cO:=cp},rfl,?_,?_⟩,fun k D L=>?_⟩
   ·iterate 9 refine Below.setCell ?_ (by simp;have:=H0.ltR;omega) _
    exact bs
   ·iterate 9 refine Mem.setOff (M:=(M.see 1 A).fault) ?_ bP _ _
    exact bw.faulted
   ·iterate 9 rw[heap_setCell_other _ _ _ _ (show k≠w.heap.size+1+1 by omega)]
    exact bv k D L
  ·have dR:IntKind.u64.wrap (A-(M.Hp h).base)=A-(M.Hp h).base:=by rw[Ff];omega
   by_cases c2:((M.Hp h).len:Int)<A-(M.Hp h).base
   ·refine wp_region_held_drew (S:=fun O=>Bw I O) Ab (Al.drew) (fun hHeld=>?_)
    refine lM [0,1,2,3,4,5,6,7,8,9] ?_;refine wpAnyH_ready (rs:=[10]) Ab AY ?_;refine AllReadyH.cons rfl (fun K hK=>?_) AllReadyH.nil;go_simp;refine(Cx _ _ _ _ _ _ (show(M.Hp h).len<=1048576 by omega)).mono ?_;rintro e aB⟨rfl,Z⟩;have aN:Bw I aB:=Below.trans (by assumption) (Z.mono (Below.size (B:=I.heap.size) (w:=I) (by assumption)));clear Z;go_wp2_with fail;refine hK.out _ _ (by assumption) (fun N=>?_);clear hK K;refine lM [11,12,13] ?_;refine AV 14 rfl ?_;refine BV ?_;refine AV 15 rfl ?_;refine BV ?_;refine AV 17 rfl ?_;refine BV ?_;refine AV 18 rfl ?_;refine BV ?_;refine AV 19 rfl ?_;refine BV ?_;refine AV 20 rfl ?_;refine BV ?_;refine AV 16 rfl ?_;refine BV ?_;refine AV 21 rfl ?_;refine BV ?_;refine AV 22 rfl ?_;refine BV ?_;refine lM [23,24] ?_;refine AV 25 rfl ?_;refine BV ?_;refine AV 26 rfl ?_;refine BV ?_;refine AV 27 rfl ?_;refine BV ?_;refine AV 28 rfl ?_;refine BV ?_;refine AV 29 rfl ?_;refine BV ?_;refine AV 30 rfl ?_;refine BV ?_;refine Ao 31 ?_;refine wpAnyH_done Ab ?_ _;have n:Bw I aB:=aN;generalize bB:aB=C at n⊢;obtain⟨ae,af,ag,ah,ai,aj,ak,al,am⟩:=c9b n bp aY aZ a0 a1 a2 a3 a4 a5 a6;obtain⟨aD,aE,aF,aG,aI,aJ⟩:=JY n bq bj bk bl bm bn bo;obtain⟨ao,ap,ar,au,av,aw,ax,ay,az⟩:=c9b n aa a8 a9 ba bb bc be bf bg bh;have aA:∀i,C.frozen? ⟨w.heap.size+1+1,i,none⟩=false:=fun i=>(n.frozen (p:=⟨w.heap.size+1+1,i,none⟩) aa).trans (bi i)
    have an:=(n.cell (p:=⟨p.bR,d,none⟩) ab).trans a7;have ac:=(n.frozen (p:=⟨p.bR,d,none⟩) ab).trans aU;have aK:w.heap.size<C.heap.size:=Nat.lt_of_lt_of_le bp n.size;have aM:w.heap.size+1<C.heap.size:=Nat.lt_of_lt_of_le bq n.size;have U:w.heap.size+1+1<C.heap.size:=Nat.lt_of_lt_of_le aa n.size;have X:p.bR<C.heap.size:=Nat.lt_of_lt_of_le ab n.size;have bS:m.heap.size<C.heap.size:=Nat.lt_of_lt_of_le J n.size;have b2:C.cell? ⟨m.heap.size,0,none⟩=some (.int .u64 (M.Hp h).base):=(n.cell (p:=⟨m.heap.size,0,none⟩) J).trans aQ;have b3:C.cell? ⟨m.heap.size,1,none⟩=some (.bool (M.Hp h).wr):=(n.cell (p:=⟨m.heap.size,1,none⟩) J).trans aR;have bQ:C.cell? ⟨m.heap.size,2,none⟩=some (.slice (some ⟨p.blk h,0,none⟩) (M.Hp h).len (p.cap h)):=(n.cell (p:=⟨m.heap.size,2,none⟩) J).trans aS;have aP:=hxy (bY.below n);have br:Hid (Below l w C):=bU.trans (n.mono (by have:=Y.out;omega));have bu:Hid (∀k,k<w.heap.size->Off p M.nH M.nO k->C.heap[k]?=w.heap[k]?):=fun k D L=>(n.block k AB).trans (bW k D L)
    have da:=n.size;clear n bB R0 R1 R2 hHeld aN N aY aZ a0 a1 a2 a3 a4 a5 a6 bj bk bl bm bn bo a8 a9 ba bb bc be bf bg bh bi a7 aU aQ aR aS;go_wp2_with fail;refine(CX _ _ _ _ _ _ _ _ _ _ _ _ _ _ _ _).mono ?_;rintro e Q⟨rfl,u⟩;have cW:=c9b u aK ae af ag ah ai aj ak al am;have c6:=JY u aM aD aE aF aG aI aJ;obtain⟨bC,bD,bE,bF,bG,bH,bI,bJ,bK⟩:=c9b u U ao ap ar au av aw ax ay az;have c5:∀i,Q.frozen? ⟨w.heap.size+1+1,i,none⟩=false:=fun i=>(u.frozen (p:=⟨w.heap.size+1+1,i,none⟩) U).trans (aA i)
    have cY:=(u.cell (p:=⟨p.bR,d,none⟩) X).trans an;have cS:=(u.frozen (p:=⟨p.bR,d,none⟩) X).trans ac;have c7:w.heap.size<Q.heap.size:=Nat.lt_of_lt_of_le aK u.size;have c8:w.heap.size+1<Q.heap.size:=Nat.lt_of_lt_of_le aM u.size;have c9:w.heap.size+1+1<Q.heap.size:=Nat.lt_of_lt_of_le U u.size;have dc:p.bR<Q.heap.size:=Nat.lt_of_lt_of_le X u.size;have bw:=hxy (aP.below u);have bs:Hid (Below l w Q):=br.trans (u.mono (by have:=Y.out;omega));have bv:Hid (∀k,k<w.heap.size->Off p M.nH M.nO k->Q.heap[k]?=w.heap[k]?):=fun k D L=>(u.block k AB).trans (bu k D L)
    clear u ae af ag ah ai aj ak al am aD aE aF aG aI aJ ao ap ar au av aw ax ay az aA an ac;go_wp2;refine bodyPost_ret (v:=.agg #[.slice (some ⟨p.bR,0,none⟩) 8 p.cR,.bool M.z,.bool M.c,.bool M.hz,.bool M.hc,.slice (some ⟨gH,0,none⟩) M.nH p.cH,.int .i64 M.pc,.int .i64 2,.slice (some ⟨g,0,none⟩) (M.nO+1) cp]) (by simp[results,Tryz.results75,go_sem,bC,bD,bE,bF,bG,bH,bI,bJ,bK]) rfl ?_;rw[<-bT.out];have aT:bA=(M.see 1 A).fault:=by
     rw[bO.out];unfold Ca;rw[if_neg hH];have hq:(lies (M.Hp h).base A (wi:Nat) (M.Hp h).len&&(!false||(M.Hp h).wr))=false:=by
      unfold lies;simp[show¬A-(M.Hp h).base<=((M.Hp h).len:Int)-wi by omega]
     rw[hq];rfl
    rw[aT];refine⟨⟨{p with aO:=some ⟨g,0,none⟩,cO:=cp},rfl,?_,?_⟩,fun k D L=>?_⟩
    ·iterate 9 refine Below.setCell ?_ (by simp;have:=H0.ltR;omega) _
     exact bs
    ·iterate 9 refine Mem.setOff (M:=(M.see 1 A).fault) ?_ bP _ _
     exact bw.faulted
    ·iterate 9 rw[heap_setCell_other _ _ _ _ (show k≠w.heap.size+1+1 by omega)]
     exact bv k D L
   ·have dq:IntKind.u64.wrap (((M.Hp h).len:Int)-(A-(M.Hp h).base))=((M.Hp h).len:Int)-(A-(M.Hp h).base):=by rw[Ff];omega
    have dN:decide (((M.Hp h).len:Int)<A-(M.Hp h).base)=false:=by simp;omega
    by_cases c3:((M.Hp h).len:Int)-(A-(M.Hp h).base)<wi
    ·refine wp_region_held_drew (S:=fun O=>Bw I O) Ab (Al.drew) (fun hHeld=>?_)
     refine lM [0,1,2,3,4,5,6,7,8,9] ?_;refine wpAnyH_ready (rs:=[10]) Ab AY ?_;refine AllReadyH.cons rfl (fun K hK=>?_) AllReadyH.nil;go_simp;refine(Cx _ _ _ _ _ _ (show(M.Hp h).len<=1048576 by omega)).mono ?_;rintro e aB⟨rfl,Z⟩;have aN:Bw I aB:=Below.trans (by assumption) (Z.mono (Below.size (B:=I.heap.size) (w:=I) (by assumption)));clear Z;go_wp2_with fail;refine hK.out _ _ (by assumption) (fun N=>?_);clear hK K;refine lM [11,12,13,14,15,17,18,19,20] ?_;refine wpAnyH_ready (rs:=[16]) Ab AY ?_;refine AllReadyH.cons rfl (fun K hK=>?_) AllReadyH.nil;go_simp;refine(Cx _ _ _ _ _ _ (show(M.Hp h).len<=1048576 by omega)).mono ?_;rintro e aC⟨rfl,aV⟩;have aX:Bw I aC:=Below.trans (by assumption) (aV.mono (Below.size (B:=I.heap.size) (w:=I) (by assumption)));clear aV;go_wp2_with fail;refine hK.out _ _ (by assumption) (fun ad=>?_);clear hK K;refine lM [21,22,23,24] ?_;refine AV 25 rfl ?_;refine BV ?_;refine AV 26 rfl ?_;refine BV ?_;refine AV 27 rfl ?_;refine BV ?_;refine AV 28 rfl ?_;refine BV ?_;refine AV 29 rfl ?_;refine BV ?_;refine AV 30 rfl ?_;refine BV ?_;refine Ao 31 ?_;refine wpAnyH_done Ab ?_ _;have n:Bw I aC:=aX;generalize bB:aC=C at n⊢;obtain⟨ae,af,ag,ah,ai,aj,ak,al,am⟩:=c9b n bp aY aZ a0 a1 a2 a3 a4 a5 a6;obtain⟨aD,aE,aF,aG,aI,aJ⟩:=JY n bq bj bk bl bm bn bo;obtain⟨ao,ap,ar,au,av,aw,ax,ay,az⟩:=c9b n aa a8 a9 ba bb bc be bf bg bh;have aA:∀i,C.frozen? ⟨w.heap.size+1+1,i,none⟩=false:=fun i=>(n.frozen (p:=⟨w.heap.size+1+1,i,none⟩) aa).trans (bi i)
     have an:=(n.cell (p:=⟨p.bR,d,none⟩) ab).trans a7;have ac:=(n.frozen (p:=⟨p.bR,d,none⟩) ab).trans aU;have aK:w.heap.size<C.heap.size:=Nat.lt_of_lt_of_le bp n.size;have aM:w.heap.size+1<C.heap.size:=Nat.lt_of_lt_of_le bq n.size;have U:w.heap.size+1+1<C.heap.size:=Nat.lt_of_lt_of_le aa n.size;have X:p.bR<C.heap.size:=Nat.lt_of_lt_of_le ab n.size;have bS:m.heap.size<C.heap.size:=Nat.lt_of_lt_of_le J n.size;have b2:C.cell? ⟨m.heap.size,0,none⟩=some (.int .u64 (M.Hp h).base):=(n.cell (p:=⟨m.heap.size,0,none⟩) J).trans aQ;have b3:C.cell? ⟨m.heap.size,1,none⟩=some (.bool (M.Hp h).wr):=(n.cell (p:=⟨m.heap.size,1,none⟩) J).trans aR;have bQ:C.cell? ⟨m.heap.size,2,none⟩=some (.slice (some ⟨p.blk h,0,none⟩) (M.Hp h).len (p.cap h)):=(n.cell (p:=⟨m.heap.size,2,none⟩) J).trans aS;have aP:=hxy (bY.below n);have br:Hid (Below l w C):=bU.trans (n.mono (by have:=Y.out;omega));have bu:Hid (∀k,k<w.heap.size->Off p M.nH M.nO k->C.heap[k]?=w.heap[k]?):=fun k D L=>(n.block k AB).trans (bW k D L)
     have da:=n.size;clear n bB R0 R1 R2 hHeld aN N aX ad aY aZ a0 a1 a2 a3 a4 a5 a6 bj bk bl bm bn bo a8 a9 ba bb bc be bf bg bh bi a7 aU aQ aR aS;go_wp2_with fail;refine(CX _ _ _ _ _ _ _ _ _ _ _ _ _ _ _ _).mono ?_;rintro e Q⟨rfl,u⟩;have cW:=c9b u aK ae af ag ah ai aj ak al am;have c6:=JY u aM aD aE aF aG aI aJ;obtain⟨bC,bD,bE,bF,bG,bH,bI,bJ,bK⟩:=c9b u U ao ap ar au av aw ax ay az;have c5:∀i,Q.frozen? ⟨w.heap.size+1+1,i,none⟩=false:=fun i=>(u.frozen (p:=⟨w.heap.size+1+1,i,none⟩) U).trans (aA i)
     have cY:=(u.cell (p:=⟨p.bR,d,none⟩) X).trans an;have cS:=(u.frozen (p:=⟨p.bR,d,none⟩) X).trans ac;have c7:w.heap.size<Q.heap.size:=Nat.lt_of_lt_of_le aK u.size;have c8:w.heap.size+1<Q.heap.size:=Nat.lt_of_lt_of_le aM u.size;have c9:w.heap.size+1+1<Q.heap.size:=Nat.lt_of_lt_of_le U u.size;have dc:p.bR<Q.heap.size:=Nat.lt_of_lt_of_le X u.size;have bw:=hxy (aP.below u);have bs:Hid (Below l w Q):=br.trans (u.mono (by have:=Y.out;omega));have bv:Hid (∀k,k<w.heap.size->Off p M.nH M.nO k->Q.heap[k]?=w.heap[k]?):=fun k D L=>(u.block k AB).trans (bu k D L)
     clear u ae af ag ah ai aj ak al am aD aE aF aG aI aJ ao ap ar au av aw ax ay az aA an ac;go_wp2;refine bodyPost_ret (v:=.agg #[.slice (some ⟨p.bR,0,none⟩) 8 p.cR,.bool M.z,.bool M.c,.bool M.hz,.bool M.hc,.slice (some ⟨gH,0,none⟩) M.nH p.cH,.int .i64 M.pc,.int .i64 2,.slice (some ⟨g,0,none⟩) (M.nO+1) cp]) (by simp[results,Tryz.results75,go_sem,bC,bD,bE,bF,bG,bH,bI,bJ,bK]) rfl ?_;rw[<-bT.out];have aT:bA=(M.see 1 A).fault:=by
      rw[bO.out];unfold Ca;rw[if_neg hH];have hq:(lies (M.Hp h).base A (wi:Nat) (M.Hp h).len&&(!false||(M.Hp h).wr))=false:=by
       unfold lies;simp[show¬A-(M.Hp h).base<=((M.Hp h).len:Int)-wi by omega]
      rw[hq];rfl
     rw[aT];refine⟨⟨{p with aO:=some ⟨g,0,none⟩,cO:=cp},rfl,?_,?_⟩,fun k D L=>?_⟩
     ·iterate 9 refine Below.setCell ?_ (by simp;have:=H0.ltR;omega) _
      exact bs
     ·iterate 9 refine Mem.setOff (M:=(M.see 1 A).fault) ?_ bP _ _
      exact bw.faulted
     ·iterate 9 rw[heap_setCell_other _ _ _ _ (show k≠w.heap.size+1+1 by omega)]
      exact bv k D L
    ·have dO:decide (((M.Hp h).len:Int)-(A-(M.Hp h).base)<wi)=false:=by simp;omega
     obtain⟨o,L⟩:∃o:Nat,A-(M.Hp h).base=o:=Int.eq_ofNat_of_zero_le AB;have em:o+wi<=(M.Hp h).len:=AB;have HO:=hxy L;clear L;refine wp_region_held_drew (S:=fun O=>Bw I O) Ab (Al.drew) (fun hHeld=>?_);refine lM [0,1,2,3,4,5,6,7,8,9] ?_;refine wpAnyH_ready (rs:=[10]) Ab AY ?_;refine AllReadyH.cons rfl (fun K hK=>?_) AllReadyH.nil;go_simp;refine(Cx _ _ _ _ _ _ (show(M.Hp h).len<=1048576 by omega)).mono ?_;rintro e aB⟨rfl,Z⟩;have aN:Bw I aB:=Below.trans (by assumption) (Z.mono (Below.size (B:=I.heap.size) (w:=I) (by assumption)));clear Z;go_wp2_with fail;refine hK.out _ _ (by assumption) (fun N=>?_);clear hK K;refine lM [11,12,13,14,15,17,18,19,20] ?_;refine wpAnyH_ready (rs:=[16]) Ab AY ?_;refine AllReadyH.cons rfl (fun K hK=>?_) AllReadyH.nil;go_simp;refine(Cx _ _ _ _ _ _ (show(M.Hp h).len<=1048576 by omega)).mono ?_;rintro e aC⟨rfl,aV⟩;have aX:Bw I aC:=Below.trans (by assumption) (aV.mono (Below.size (B:=I.heap.size) (w:=I) (by assumption)));clear aV;go_wp2_with fail;refine hK.out _ _ (by assumption) (fun ad=>?_);clear hK K;refine lM [21,22,23,24,25,26] ?_;refine AV 27 rfl ?_;refine BV ?_;refine AV 28 rfl ?_;refine BV ?_;refine AV 29 rfl ?_;refine BV ?_;refine lM [30,31] ?_;refine wpAnyH_done Ab ?_ _;have n:Bw I aC:=aX;generalize bB:aC=C at n⊢;obtain⟨ae,af,ag,ah,ai,aj,ak,al,am⟩:=c9b n bp aY aZ a0 a1 a2 a3 a4 a5 a6;obtain⟨aD,aE,aF,aG,aI,aJ⟩:=JY n bq bj bk bl bm bn bo;obtain⟨ao,ap,ar,au,av,aw,ax,ay,az⟩:=c9b n aa a8 a9 ba bb bc be bf bg bh;have aA:∀i,C.frozen? ⟨w.heap.size+1+1,i,none⟩=false:=fun i=>(n.frozen (p:=⟨w.heap.size+1+1,i,none⟩) aa).trans (bi i)
     have an:=(n.cell (p:=⟨p.bR,d,none⟩) ab).trans a7;have ac:=(n.frozen (p:=⟨p.bR,d,none⟩) ab).trans aU;have aK:w.heap.size<C.heap.size:=Nat.lt_of_lt_of_le bp n.size;have aM:w.heap.size+1<C.heap.size:=Nat.lt_of_lt_of_le bq n.size;have U:w.heap.size+1+1<C.heap.size:=Nat.lt_of_lt_of_le aa n.size;have X:p.bR<C.heap.size:=Nat.lt_of_lt_of_le ab n.size;have bS:m.heap.size<C.heap.size:=Nat.lt_of_lt_of_le J n.size;have b2:C.cell? ⟨m.heap.size,0,none⟩=some (.int .u64 (M.Hp h).base):=(n.cell (p:=⟨m.heap.size,0,none⟩) J).trans aQ;have b3:C.cell? ⟨m.heap.size,1,none⟩=some (.bool (M.Hp h).wr):=(n.cell (p:=⟨m.heap.size,1,none⟩) J).trans aR;have bQ:C.cell? ⟨m.heap.size,2,none⟩=some (.slice (some ⟨p.blk h,0,none⟩) (M.Hp h).len (p.cap h)):=(n.cell (p:=⟨m.heap.size,2,none⟩) J).trans aS;have aP:=hxy (bY.below n);have br:Hid (Below l w C):=bU.trans (n.mono (by have:=Y.out;omega));have bu:Hid (∀k,k<w.heap.size->Off p M.nH M.nO k->C.heap[k]?=w.heap[k]?):=fun k D L=>(n.block k AB).trans (bW k D L)
     have da:=n.size;clear n bB R0 R1 R2 hHeld aN N aX ad aY aZ a0 a1 a2 a3 a4 a5 a6 bj bk bl bm bn bo a8 a9 ba bb bc be bf bg bh bi a7 aU aQ aR aS;have dw:Hid (∀q,q<wi->C.cell? ⟨p.blk h,o+q,none⟩=some (.int .u8 ((M.Hp h).dat (o+q)))):=fun q hq=>(ET (aP.data h hh)).2.2.2.cell (show o+q<(M.Hp h).len by omega)
     have zD:=(ET (aP.data h hh)).2.2.2.lt;have cJ:=hxy (dx h hh);have ef:(M.Hp h).base<=A:=AB;go_wp2_with fail;rw[HO.out];clear dR dq dN dO c2 c3 c1;go_loopw [10,11](fun v i wr=>∃q:Nat,q<=wi/\i=.int .u64 q/\v=.int .u64 (Eu (M.Hp h).dat o q)/\Bw C wr)(fun _ i _=>wi-(intOf i).toNat)
     case atStart=>exact⟨0,Nat.zero_le _,rfl,rfl,Below.refl _ _⟩
     case round=>
      obtain⟨q,eo,rfl,rfl,E⟩:=hrel;by_cases dP:q<wi
      ·have d4:m.heap.size<wr.heap.size:=Nat.lt_of_lt_of_le bS E.size
       have d3:p.blk h<wr.heap.size:=Nat.lt_of_lt_of_le zD E.size;have r2:∀O,Bw wr O->O.cell? ⟨m.heap.size,2,none⟩=some (.slice (some ⟨p.blk h,0,none⟩) (M.Hp h).len (p.cap h)):=fun O hw=>(hw.cell (p:=⟨m.heap.size,2,none⟩) d4).trans ((E.cell (p:=⟨m.heap.size,2,none⟩) bS).trans bQ)
       have rD:∀O,Bw wr O->O.cell? ⟨p.blk h,o+q,none⟩=some (.int .u8 ((M.Hp h).dat (o+q))):=fun O hw=>(hw.cell (p:=⟨p.blk h,o+q,none⟩) d3).trans ((E.cell (p:=⟨p.blk h,o+q,none⟩) zD).trans (dw q dP))
       have hr:=FE (M.Hp h).dat o q fun j hj=>cJ.out (o+j) AB
       have cT:=FE (M.Hp h).dat o (q+1) fun j hj=>cJ.out (o+j) AB
       have hy:=cJ.out (o+q) AB;have cU:=Lp (y:=(M.Hp h).dat (o+q)) (k:=q) AB hy.1 hy.2;have dl:(2:Int)^(8*(q+1))<=18446744073709551616:=by
        have:=Kk (k:=q) AB;rw[show 8*(q+1)=8*q+8 by omega,Int.pow_add];omega
       have dn:=H6 cU.1 cU.2;have dp:IntKind.u64.wrap (Eu (M.Hp h).dat o q+(M.Hp h).dat (o+q)*2^(8*q))=Eu (M.Hp h).dat o (q+1):=by
        rw[show Eu (M.Hp h).dat o q+(M.Hp h).dat (o+q)*2^(8*q)=Eu (M.Hp h).dat o (q+1)from rfl];exact H6 cT.1 (Int.lt_of_lt_of_le cT.2 dl)
       have dI:Hid (∀w,Calls Tryz.prog 72 #[.int .i64 (8*(q:Int))] w fun e O=>e=.returned (.int .u64 ((2:Int)^(8*q)))/\O=w):=fun w=>by
        have:=Hq (8*q) w AB;simpa using this
       have dJ:=hxy dn;have dL:Hid (IntKind.u64.wrap ((M.Hp h).dat (o+q))=(M.Hp h).dat (o+q)):=H6 hy.1 (by have:=hy.2;omega);have dC:Hid (IntKind.i64.wrap (8*IntKind.i64.wrap (q:Int))=8*(q:Int)):=by
        rw[Pq (x:=(q:Int)) AB AB];exact Pq AB AB
       have bV:=hxy E;have dK:=hxy dp;have d5:(o:Int)+q<(M.Hp h).len:=AB;have ep:IntKind.u64.wrap ((o:Int)+q)=o+q:=H6 AB AB;have el:(0:Int)<=(o:Int)+q:=AB;have en:((o:Int)+q).toNat=o+q:=AB;clear E hr cT dl dp dn cU hy;go_wp2_with fail;refine wp_region_held_drew (S:=fun O=>Bw wr O) Ab (Al.drew) (fun hHeld=>?_);refine lM [0,1,2,3,4,5,6,7,8,9,10,11] ?_;refine wpAnyH_ready (rs:=[12]) Ab AY ?_;refine AllReadyH.cons rfl (fun K hK=>?_) AllReadyH.nil;go_simp;rw[dC.out];refine(dI _).mono ?_;rintro e wq⟨rfl,rfl⟩;go_wp2_with fail;refine hK.out _ _ (by assumption) (fun dm=>?_);clear hK K;refine lM [13,14,15] ?_;refine wpAnyH_done Ab ?_ _;go_wp2;go_roundw
       case rel=>exact⟨q+1,AB,by go_num,by rw[dL.out,dJ.out,dK.out],bV.trans (Below.mono (by assumption:Bw wr _) bV.size)⟩
       case measure=>simp[intOf];omega
      ·obtain rfl:wi=q:=AB
       have eq:=c9b E aK ae af ag ah ai aj ak al am;have eB:=JY E aM aD aE aF aG aI aJ;obtain⟨dU,dV,dW,dX,dY,dZ,d0,d1,d2⟩:=c9b E U ao ap ar au av aw ax ay az;have eA:∀i,wr.frozen? ⟨w.heap.size+1+1,i,none⟩=false:=fun i=>(E.frozen (p:=⟨w.heap.size+1+1,i,none⟩) U).trans (aA i)
       have ez:=(E.cell (p:=⟨p.bR,d,none⟩) X).trans an;have ec:=(E.frozen (p:=⟨p.bR,d,none⟩) X).trans ac;have eD:w.heap.size<wr.heap.size:=Nat.lt_of_lt_of_le aK E.size;have eE:w.heap.size+1<wr.heap.size:=Nat.lt_of_lt_of_le aM E.size;have eF:w.heap.size+1+1<wr.heap.size:=Nat.lt_of_lt_of_le U E.size;have eJ:p.bR<wr.heap.size:=Nat.lt_of_lt_of_le X E.size;have dG:=hxy (aP.below E);have bV:Hid (Below l w wr):=br.trans (E.mono (by have:=Y.out;omega));have dE:Hid (∀k,k<w.heap.size->Off p M.nH M.nO k->wr.heap[k]?=w.heap[k]?):=fun k D L=>(E.block k AB).trans (bu k D L)
       have dj:=bP.out;clear E ae af ag ah ai aj ak al am aD aE aF aG aI aJ ao ap ar au av aw ax ay az aA an ac b2 b3 bQ;go_wp2;refine bodyPost_ret (v:=.agg #[.slice (some ⟨p.bR,0,none⟩) 8 p.cR,.bool M.z,.bool M.c,.bool M.hz,.bool M.hc,.slice (some ⟨gH,0,none⟩) M.nH p.cH,.int .i64 M.pc,.int .i64 M.st,.slice (some ⟨g,0,none⟩) (M.nO+1) cp]) (by simp[results,Tryz.results75,go_sem,dU,dV,dW,dX,dY,dZ,d0,d1,d2]) rfl ?_;rw[<-bT.out];have aT:bA=(M.see 1 A).setR d (Eu (M.Hp h).dat o wi):=by
        rw[bO.out];unfold Ca;rw[if_neg hH];have hq:(lies (M.Hp h).base A (wi:Nat) (M.Hp h).len&&(!false||(M.Hp h).wr))=true:=by
         have h1:=HO.out;unfold lies;simp[show(M.Hp h).base<=A by omega,show(wi:Int)<=((M.Hp h).len:Int)by omega,show A-(M.Hp h).base<=((M.Hp h).len:Int)-wi by omega]
        rw[hq,HO.out];rfl
       rw[aT];refine⟨⟨{p with aO:=some ⟨g,0,none⟩,cO:=cp},rfl,?_,?_⟩,fun k D L=>?_⟩
       ·iterate 9 refine Below.setCell ?_ (by simp;have:=H0.ltR;omega) _
        refine Below.setCell ?_ (by simpa using H0.ltR.1) _;exact bV
       ·iterate 9 refine Mem.setOff (M:=(M.see 1 A).setR d (Eu (M.Hp h).dat o wi)) ?_ dj _ _
        refine Mem.setR (p:={p with aO:=some ⟨g,0,none⟩,cO:=cp}) ?_ d _;exact dG
       ·iterate 9 rw[heap_setCell_other _ _ _ _ (show k≠w.heap.size+1+1 by omega)]
        rw[heap_setCell_other _ _ _ _ (show k≠p.bR from L.r)];exact dE k D L
end Go.Proofs.YtkckomianknjdaaGreat
