import Derived.Test.YtpbceodheeepoaaGreatOfSpecI64
set_option maxHeartbeats 40000000
set_option maxRecDepth 1000000
namespace Go.Proofs.YtpbceodheeepoaaGreat
open Go.RowKit
theorem rest_st{w w0 wc:World}{base:Nat}{p:Pl}{M:MV}(h0:Mem w base p M)(hk:M.Ok)(kv:Int)(wi d a b h:Nat)(imm:Int)(hd:d<8)(ha:a<8)(hb:b<8)(hn:M.nO<=1048576)(RES:MV)(A:Int)
 (hE:RES=match memOp true wi A d h M 0 with
   |.inl (M',_)=>M'
   |.inr M'=>M'.fault)(hA0:0<=A)(hA1:A<=18446744073709551615)(hwi1:1<=wi)(hwi8:wi<=8)(b0:Below w.heap.size w w0)(z0:w0.heap.size=w.heap.size+3)
 (XM:w0.ownsRow w.heap.size 28 9 (.slice (some ⟨w.heap.size,0,none⟩) 1 1) 1 [.slice (some ⟨p.bR,0,none⟩) 8 p.cR,.bool M.z,.bool M.c,.bool M.hz,.bool M.hc,.slice p.aH M.nH p.cH,.int .i64 M.pc,.int .i64 M.st,.slice p.aO M.nO p.cO])
 (XI:w0.ownsRow w.heap.size 73 6 (.slice (some ⟨w.heap.size+1,0,none⟩) 1 1) 1 [.int .i64 kv,.int .i64 d,.int .i64 a,.int .i64 b,.int .i64 imm,.int .i64 h])
 (XZ:w0.ownsRow w.heap.size 28 9 (.slice (some ⟨w.heap.size+1+1,0,none⟩) 1 1) 1 [.slice none 0 0,.bool false,.bool false,.bool false,.bool false,.slice none 0 0,.int .i64 0,.int .i64 0,.slice none 0 0])
 (B9:Below w0.heap.size w0 wc)(z9:wc.heap.size=w0.heap.size)(u12 u13 u14 u15 u16 u17 u18 u19 u20 u21 u22 u23 u24 u25 u26 u27 u28 u29 u30 u31 u32 u33 u34 u35 u36 u37 u38 u39 u40 u41 u42 u43 u44 u45 u46 u47 u48 u49 u50 u51 u52 u53 u54 u55 u56 u57 u58 u59 u60 u61 u62 u63 u64 u65 u66 u67 u68 u69 u70 u71 u72 u73 u74 u75 u76 u77 u78 u79 u80 u81 u82 u83 u84 u85 u86 u87 u88 u89 u90 u91 u92 u93 u94 u95 u96 u97 u98 u99 u100 u101 u102 u103 u104 u105 u106 u107 u108 u109 u110 u111 u112 u113 u114 u115 u116 u117 u118 u119 u120 u121 u122 u123 u124 u125 u126 u127 u128 u129 u130 u131 u132 u133 u134 u135 u136 u137 u138 u139 u140 u141 u142 u143 u144 u145 u146 u147 u148 u149 u150 u151 u152 u153 u154 u155 u156 u157 u158 u159 u160 u161 u162 u163 u164 u165 u166 u167 u168 u169 u170 u171 u172 u173 u174 u175 u176:Value):
 Code.wp Tryz.prog (memR Tryz.f127) (bodyPost Tryz.prog Tryz.f127 (fun e w'=>Did base w (RES) e w'/\∀k,k<w.heap.size->Off p M.nH M.nO k->w'.heap[k]?=w.heap[k]?))
  ⟨#[.agg #[.slice (some ⟨p.bR,0,none⟩) 8 p.cR,.bool M.z,.bool M.c,.bool M.hz,.bool M.hc,.slice p.aH M.nH p.cH,.int .i64 M.pc,.int .i64 M.st,.slice p.aO M.nO p.cO],.agg #[.int .i64 kv,.int .i64 d,.int .i64 a,.int .i64 b,.int .i64 imm,.int .i64 h],.pointer (some ⟨w.heap.size,0,none⟩),.pointer (some ⟨w.heap.size+1,0,none⟩),.pointer (some ⟨w.heap.size+1+1,0,none⟩),.int .u64 A,.int .u64 wi,.bool true,undef,undef,undef,undef,u12,u13,u14,u15,u16,u17,u18,u19,u20,u21,u22,u23,u24,u25,u26,u27,u28,u29,u30,u31,u32,u33,u34,u35,u36,u37,u38,u39,u40,u41,u42,u43,u44,u45,u46,u47,u48,u49,u50,u51,u52,u53,u54,u55,u56,u57,u58,u59,u60,u61,u62,u63,u64,u65,u66,u67,u68,u69,u70,u71,u72,u73,u74,u75,u76,u77,u78,u79,u80,u81,u82,u83,u84,u85,u86,u87,u88,u89,u90,u91,u92,u93,u94,u95,u96,u97,u98,u99,u100,u101,u102,u103,u104,u105,u106,u107,u108,u109,u110,u111,u112,u113,u114,u115,u116,u117,u118,u119,u120,u121,u122,u123,u124,u125,u126,u127,u128,u129,u130,u131,u132,u133,u134,u135,u136,u137,u138,u139,u140,u141,u142,u143,u144,u145,u146,u147,u148,u149,u150,u151,u152,u153,u154,u155,u156,u157,u158,u159,u160,u161,u162,u163,u164,u165,u166,u167,u168,u169,u170,u171,u172,u173,u174,u175,u176],[]⟩ wc:=by
 have hd':(d:Int)<8:=by omega
 have ha':(a:Int)<8:=by omega
 have hb':(b:Int)<8:=by omega
 have ra:=h0.reg ha
 have rb:=h0.reg hb
 have rd:=h0.reg hd
 have fd:=h0.freeR d
 have zR:=h0.ltR.2
 have pa:=hk.reg a ha
 have pb:=hk.reg b hb
 obtain⟨pa0,pa1⟩:=pa
 obtain⟨pb0,pb1⟩:=pb
 have HHP:Hid (∀i,i<M.nH->0<=(M.Hp i).base/\1<=(M.Hp i).len/\(M.Hp i).len<=4096/\(M.Hp i).base+(M.Hp i).len<=18446744073709551615):=hk.heap
 have HDT:Hid (∀i,i<M.nH->∀j,j<(M.Hp i).len->0<=(M.Hp i).dat j/\(M.Hp i).dat j<=255):=hk.dat
 have pd:=hk.reg d hd
 obtain⟨pd0,pd1⟩:=pd
 have H0:Hid (Mem w base p M):=h0
 clear h0 hk
 obtain⟨m0,m1,m2,m3,m4,m5,m6,m7,m8⟩:=cells9 XM
 obtain⟨i0,i1,i2,i3,i4,i5⟩:=cells6 XI
 obtain⟨s0,s1,s2,s3,s4,s5,s6,s7,s8⟩:=cells9 XZ
 have mf:∀i,w0.frozen? ⟨w.heap.size,i,none⟩=false:=fun i=>XM.frozenAt i
 have sf:∀i,w0.frozen? ⟨w.heap.size+1+1,i,none⟩=false:=fun i=>XZ.frozenAt i
 have ra0:=(b0.cell (p:=⟨p.bR,a,none⟩) zR).trans ra
 have rb0:=(b0.cell (p:=⟨p.bR,b,none⟩) zR).trans rb
 have rd0:=(b0.cell (p:=⟨p.bR,d,none⟩) zR).trans rd
 have fd0:=(b0.frozen (p:=⟨p.bR,d,none⟩) zR).trans fd
 have zR0:p.bR<w0.heap.size:=by omega
 have y0:w.heap.size<w0.heap.size:=by omega
 have y1:w.heap.size+1<w0.heap.size:=by omega
 have y2:w.heap.size+1+1<w0.heap.size:=by omega
 have n0:p.bR≠w.heap.size:=by omega
 have n1:p.bR≠w.heap.size+1:=by omega
 have n2:p.bR≠w.heap.size+1+1:=by omega
 have HB0:Hid (Below w.heap.size w w0):=b0
 have HXM:Hid (w0.ownsRow w.heap.size 28 9 (.slice (some ⟨w.heap.size,0,none⟩) 1 1) 1 [.slice (some ⟨p.bR,0,none⟩) 8 p.cR,.bool M.z,.bool M.c,.bool M.hz,.bool M.hc,.slice p.aH M.nH p.cH,.int .i64 M.pc,.int .i64 M.st,.slice p.aO M.nO p.cO]):=XM
 have HXZ:Hid (w0.ownsRow w.heap.size 28 9 (.slice (some ⟨w.heap.size+1+1,0,none⟩) 1 1) 1 [.slice none 0 0,.bool false,.bool false,.bool false,.bool false,.slice none 0 0,.int .i64 0,.int .i64 0,.slice none 0 0]):=XZ
 clear b0 XM XI XZ ra rb rd fd
 have HMW:Hid (Mem w0 base p M):=H0.out.below HB0.out
 have HBS:Hid (base<=w0.heap.size):=by have:=H0.out.ltR;show base<=w0.heap.size;omega
 have no:∀k,w.heap.size<=k->some k≠(Value.slice p.aO M.nO p.cO).ownBlock:=fun k hk q=>by have:=(H0.out.obs.lt k q.symm).2;omega
 have NO0:Hid (some w.heap.size≠(Value.slice p.aO M.nO p.cO).ownBlock):=no _ (Nat.le_refl _)
 have NO2:Hid (some (w.heap.size+1+1)≠(Value.slice p.aO M.nO p.cO).ownBlock):=no _ (by omega)
 have NO1:Hid (some (w.heap.size+1)≠(Value.slice p.aO M.nO p.cO).ownBlock):=no _ (by omega)
 have NOR:Hid (some p.bR≠(Value.slice p.aO M.nO p.cO).ownBlock):=apart_some (rows_apart H0.out.regs H0.out.obs (by decide))
 have HE3:Hid _:=hE
 clear no hE
 have HB9:Hid (Below w0.heap.size w0 wc):=B9
 conv=>arg 2;whnf
 obtain⟨m09,m19,m29,m39,m49,m59,m69,m79,m89⟩:=c9b HB9.out y0 m0 m1 m2 m3 m4 m5 m6 m7 m8
 have y09:w.heap.size<wc.heap.size:=by omega
 go_wp2_with fail
 have HM9:Hid (Mem wc base p M):=HMW.out.below HB9.out
 refine(l1See_any base (first (M.nO*2) (obsF M.K M.V)) _ _ _ _ _ _ _ _ _ _ _ _ p.aO M.nO p.cO 1 A wc hn (by have:=HBS.out;omega) HM9.out.obs).mono ?_
 rintro e wz⟨g,cp,rfl,oc,gc⟩
 have hcB:∀k o,k<w0.heap.size->some k≠(Value.slice p.aO M.nO p.cO).ownBlock->wz.cell? ⟨k,o,none⟩=w0.cell? ⟨k,o,none⟩:=fun k o h1 h2=>(World.cell?_of_block (gc.block k (by omega) h2)).trans (B9.cell (p:=⟨k,o,none⟩) h1)
 have hfB:∀k o,k<w0.heap.size->some k≠(Value.slice p.aO M.nO p.cO).ownBlock->wz.frozen? ⟨k,o,none⟩=w0.frozen? ⟨k,o,none⟩:=fun k o h1 h2=>(World.frozen?_of_block (gc.block k (by omega) h2)).trans (B9.frozen (p:=⟨k,o,none⟩) h1)
 have zc:w0.heap.size<=wz.heap.size:=by have:=gc.size;omega
 have gM:g≠w.heap.size:=by
  have:=apart_some (rows_apart oc ((row_below HXM.out B9).kept gc (.inr NO0.out)) (by decide))
  simpa[Value.ownBlock]using this
 have gZ:g≠w.heap.size+1+1:=by
  have:=apart_some (rows_apart oc ((row_below HXZ.out B9).kept gc (.inr NO2.out)) (by decide))
  simpa[Value.ownBlock]using this
 have HGM:Hid (g≠w.heap.size):=gM
 have HGZ:Hid (g≠w.heap.size+1+1):=gZ
 have HMC:Hid (Mem wz base {p with aO:=some ⟨g,0,none⟩,cO:=cp} (M.see 1 A)):=HM9.out.see oc gc
 have HBC:Hid (Below base w wz):=((HB0.out.mono (Nat.le_of_lt (Nat.lt_of_le_of_lt H0.out.ltR.1 H0.out.ltR.2))).trans (B9.mono HBS.out)).trans ((Below.refl _ _).grown gc (by have:=HBS.out;omega) (fun k hk=>(H0.out.obs.lt k hk).1))
 have HKC:Hid (∀k,k<w.heap.size->Off p M.nH M.nO k->wz.heap[k]?=w.heap[k]?):=fun k hk ho=>(gc.block k (by omega) (fun e=>ho.o e.symm)).trans ((B9.block k (by omega)).trans (HB0.out.block k hk))
 have rac:=(hcB _ _ zR0 NOR.out).trans ra0
 have rdc:=(hcB _ _ zR0 NOR.out).trans rd0
 have fdc:=(hfB _ _ zR0 NOR.out).trans fd0
 have zRc:p.bR<wz.heap.size:=by omega
 have c0':w.heap.size<wz.heap.size:=by omega
 have c1':w.heap.size+1<wz.heap.size:=by omega
 have c2':w.heap.size+1+1<wz.heap.size:=by omega
 obtain⟨e0,e1,e2,e3,e4,e5,e6,e7,e8⟩:=c9f (fun o=>hcB _ o y0 NO0.out) m0 m1 m2 m3 m4 m5 m6 m7 m8
 obtain⟨x0,x1,x2,x3,x4,x5⟩:=c6f (fun o=>hcB _ o y1 NO1.out) i0 i1 i2 i3 i4 i5
 obtain⟨t0,t1,t2,t3,t4,t5,t6,t7,t8⟩:=c9f (fun o=>hcB _ o y2 NO2.out) s0 s1 s2 s3 s4 s5 s6 s7 s8
 have mfc:∀i,wz.frozen? ⟨w.heap.size,i,none⟩=false:=fun i=>(hfB _ i y0 NO0.out).trans (mf i)
 have sfc:∀i,wz.frozen? ⟨w.heap.size+1+1,i,none⟩=false:=fun i=>(hfB _ i y2 NO2.out).trans (sf i)
 clear m0 m1 m2 m3 m4 m5 m6 m7 m8 i0 i1 i2 i3 i4 i5 s0 s1 s2 s3 s4 s5 s6 s7 s8 mf sf rd0 fd0 ra0 rb0 oc gc hcB hfB gM gZ HXM HXZ B9 HM9 HMW m09 m19 m29 m39 m49 m59 m69 m79 m89 HB9
 have HOM:Hid (Off {p with aO:=some ⟨g,0,none⟩,cO:=cp} M.nH (M.nO+1) w.heap.size):=off_new (M:=M.see 1 A) H0.out rfl (Nat.le_refl _) HGM.out cp
 have HOZ:Hid (Off {p with aO:=some ⟨g,0,none⟩,cO:=cp} M.nH (M.nO+1) (w.heap.size+1+1)):=off_new (M:=M.see 1 A) H0.out rfl (show w.heap.size<=w.heap.size+1+1 by omega) HGZ.out cp
 have hw5:∃w5,(((((((((wz.setCell ⟨w.heap.size,0,none⟩ (.slice (some ⟨p.bR,0,none⟩) 8 p.cR)).setCell ⟨w.heap.size,1,none⟩ (.bool M.z)).setCell ⟨w.heap.size,2,none⟩ (.bool M.c)).setCell ⟨w.heap.size,3,none⟩ (.bool M.hz)).setCell ⟨w.heap.size,4,none⟩ (.bool M.hc)).setCell ⟨w.heap.size,5,none⟩ (.slice p.aH M.nH p.cH)).setCell ⟨w.heap.size,6,none⟩ (.int .i64 M.pc)).setCell ⟨w.heap.size,7,none⟩ (.int .i64 M.st)).setCell ⟨w.heap.size,8,none⟩ (.slice (some ⟨g,0,none⟩) (M.nO+1) cp))=w5:=⟨_,rfl⟩
 obtain⟨w5,hw5⟩:=hw5
 have HW5:Hid ((((((((((wz.setCell ⟨w.heap.size,0,none⟩ (.slice (some ⟨p.bR,0,none⟩) 8 p.cR)).setCell ⟨w.heap.size,1,none⟩ (.bool M.z)).setCell ⟨w.heap.size,2,none⟩ (.bool M.c)).setCell ⟨w.heap.size,3,none⟩ (.bool M.hz)).setCell ⟨w.heap.size,4,none⟩ (.bool M.hc)).setCell ⟨w.heap.size,5,none⟩ (.slice p.aH M.nH p.cH)).setCell ⟨w.heap.size,6,none⟩ (.int .i64 M.pc)).setCell ⟨w.heap.size,7,none⟩ (.int .i64 M.st)).setCell ⟨w.heap.size,8,none⟩ (.slice (some ⟨g,0,none⟩) (M.nO+1) cp))=w5):=hw5
 have HM5:Hid (Mem w5 base {p with aO:=some ⟨g,0,none⟩,cO:=cp} (M.see 1 A)):=by
  rw[<-hw5]
  iterate 9 refine Mem.setOff (M:=M.see 1 A) ?_ HOM.out _ _
  exact HMC.out
 have HB5:Hid (Below base w w5):=by
  rw[<-hw5]
  iterate 9 refine Below.setCell ?_ (by simp;have:=H0.out.ltR;omega) _
  exact HBC.out
 have HK5:Hid (∀k,k<w.heap.size->Off p M.nH M.nO k->w5.heap[k]?=w.heap[k]?):=fun k hk ho=>by
  rw[<-hw5]
  iterate 9 rw[heap_setCell_other _ _ _ _ (show k≠w.heap.size by omega)]
  exact HKC.out k hk ho
 have z5:w5.heap.size=wz.heap.size:=by rw[<-hw5];simp
 have n05:w5.cell? ⟨w.heap.size,0,none⟩=some (.slice (some ⟨p.bR,0,none⟩) 8 p.cR):=by rw[<-hw5];simp[go_sem,e0]
 have n15:w5.cell? ⟨w.heap.size,1,none⟩=some (.bool M.z):=by rw[<-hw5];simp[go_sem,e1]
 have n25:w5.cell? ⟨w.heap.size,2,none⟩=some (.bool M.c):=by rw[<-hw5];simp[go_sem,e2]
 have n35:w5.cell? ⟨w.heap.size,3,none⟩=some (.bool M.hz):=by rw[<-hw5];simp[go_sem,e3]
 have n45:w5.cell? ⟨w.heap.size,4,none⟩=some (.bool M.hc):=by rw[<-hw5];simp[go_sem,e4]
 have n55:w5.cell? ⟨w.heap.size,5,none⟩=some (.slice p.aH M.nH p.cH):=by rw[<-hw5];simp[go_sem,e5]
 have n65:w5.cell? ⟨w.heap.size,6,none⟩=some (.int .i64 M.pc):=by rw[<-hw5];simp[go_sem,e6]
 have n75:w5.cell? ⟨w.heap.size,7,none⟩=some (.int .i64 M.st):=by rw[<-hw5];simp[go_sem,e7]
 have n85:w5.cell? ⟨w.heap.size,8,none⟩=some (.slice (some ⟨g,0,none⟩) (M.nO+1) cp):=by rw[<-hw5];simp[go_sem,e8]
 have x05:w5.cell? ⟨w.heap.size+1,0,none⟩=some (.int .i64 kv):=by rw[<-hw5];simp[go_sem,x0]
 have x15:w5.cell? ⟨w.heap.size+1,1,none⟩=some (.int .i64 d):=by rw[<-hw5];simp[go_sem,x1]
 have x25:w5.cell? ⟨w.heap.size+1,2,none⟩=some (.int .i64 a):=by rw[<-hw5];simp[go_sem,x2]
 have x35:w5.cell? ⟨w.heap.size+1,3,none⟩=some (.int .i64 b):=by rw[<-hw5];simp[go_sem,x3]
 have x45:w5.cell? ⟨w.heap.size+1,4,none⟩=some (.int .i64 imm):=by rw[<-hw5];simp[go_sem,x4]
 have x55:w5.cell? ⟨w.heap.size+1,5,none⟩=some (.int .i64 h):=by rw[<-hw5];simp[go_sem,x5]
 have t05:w5.cell? ⟨w.heap.size+1+1,0,none⟩=some (.slice none 0 0):=by rw[<-hw5];simp[go_sem,t0]
 have t15:w5.cell? ⟨w.heap.size+1+1,1,none⟩=some (.bool false):=by rw[<-hw5];simp[go_sem,t1]
 have t25:w5.cell? ⟨w.heap.size+1+1,2,none⟩=some (.bool false):=by rw[<-hw5];simp[go_sem,t2]
 have t35:w5.cell? ⟨w.heap.size+1+1,3,none⟩=some (.bool false):=by rw[<-hw5];simp[go_sem,t3]
 have t45:w5.cell? ⟨w.heap.size+1+1,4,none⟩=some (.bool false):=by rw[<-hw5];simp[go_sem,t4]
 have t55:w5.cell? ⟨w.heap.size+1+1,5,none⟩=some (.slice none 0 0):=by rw[<-hw5];simp[go_sem,t5]
 have t65:w5.cell? ⟨w.heap.size+1+1,6,none⟩=some (.int .i64 0):=by rw[<-hw5];simp[go_sem,t6]
 have t75:w5.cell? ⟨w.heap.size+1+1,7,none⟩=some (.int .i64 0):=by rw[<-hw5];simp[go_sem,t7]
 have t85:w5.cell? ⟨w.heap.size+1+1,8,none⟩=some (.slice none 0 0):=by rw[<-hw5];simp[go_sem,t8]
 have tf5:∀i,w5.frozen? ⟨w.heap.size+1+1,i,none⟩=false:=fun i=>by rw[<-hw5];simp[go_sem,sfc]
 have rd5:w5.cell? ⟨p.bR,d,none⟩=some (.int .u64 (M.R d)):=by rw[<-hw5];simp[go_sem,rdc]
 have fd5:w5.frozen? ⟨p.bR,d,none⟩=false:=by rw[<-hw5];simp[go_sem,fdc]
 have z05:w.heap.size<w5.heap.size:=by omega
 have z15:w.heap.size+1<w5.heap.size:=by omega
 have z25:w.heap.size+1+1<w5.heap.size:=by omega
 have zR5:p.bR<w5.heap.size:=by omega
 have z5':w0.heap.size<=w5.heap.size:=by omega
 clear hw5 z5 z9
 by_cases hH:M.nH<=h
 ·go_wp2_with fail
  rw[HW5.out]
  clear e0 e1 e2 e3 e4 e5 e6 e7 e8 x0 x1 x2 x3 x4 x5 t0 t1 t2 t3 t4 t5 t6 t7 t8 mfc sfc rac rdc fdc HW5
  refine(l1Fault_any _ _ _ _ _ _ _ _ _ _ _ _ _ _ _ _).mono ?_
  rintro e wd⟨rfl,bd⟩
  obtain⟨n0d,n1d,n2d,n3d,n4d,n5d,n6d,n7d,n8d⟩:=c9b bd z05 n05 n15 n25 n35 n45 n55 n65 n75 n85
  obtain⟨x0d,x1d,x2d,x3d,x4d,x5d⟩:=c6b bd z15 x05 x15 x25 x35 x45 x55
  obtain⟨t0d,t1d,t2d,t3d,t4d,t5d,t6d,t7d,t8d⟩:=c9b bd z25 t05 t15 t25 t35 t45 t55 t65 t75 t85
  have tfd:∀i,wd.frozen? ⟨w.heap.size+1+1,i,none⟩=false:=fun i=>(bd.frozen (p:=⟨w.heap.size+1+1,i,none⟩) z25).trans (tf5 i)
  have rdd:=(bd.cell (p:=⟨p.bR,d,none⟩) zR5).trans rd5
  have fdd:=(bd.frozen (p:=⟨p.bR,d,none⟩) zR5).trans fd5
  have z0d:w.heap.size<wd.heap.size:=Nat.lt_of_lt_of_le z05 bd.size
  have z1d:w.heap.size+1<wd.heap.size:=Nat.lt_of_lt_of_le z15 bd.size
  have z2d:w.heap.size+1+1<wd.heap.size:=Nat.lt_of_lt_of_le z25 bd.size
  have zRd:p.bR<wd.heap.size:=Nat.lt_of_lt_of_le zR5 bd.size
  have HMD:Hid (Mem wd base {p with aO:=some ⟨g,0,none⟩,cO:=cp} (M.see 1 A)):=HM5.out.below bd
  have HBD:Hid (Below base w wd):=HB5.out.trans (bd.mono (by have:=HBS.out;omega))
  have HKD:Hid (∀k,k<w.heap.size->Off p M.nH M.nO k->wd.heap[k]?=w.heap[k]?):=fun k hk ho=>(bd.block k (by omega)).trans (HK5.out k hk ho)
  clear bd n05 n15 n25 n35 n45 n55 n65 n75 n85 x05 x15 x25 x35 x45 x55 t05 t15 t25 t35 t45 t55 t65 t75 t85 tf5 rd5 fd5
  go_wp2
  refine bodyPost_ret (v:=.agg #[.slice (some ⟨p.bR,0,none⟩) 8 p.cR,.bool M.z,.bool M.c,.bool M.hz,.bool M.hc,.slice p.aH M.nH p.cH,.int .i64 M.pc,.int .i64 2,.slice (some ⟨g,0,none⟩) (M.nO+1) cp]) (by simp[results,Tryz.results127,go_sem,t0d,t1d,t2d,t3d,t4d,t5d,t6d,t7d,t8d]) rfl ?_
  have hE4:RES=(M.see 1 A).fault:=by
   rw[HE3.out]
   unfold memOp
   rw[if_pos hH]
  rw[hE4]
  refine⟨⟨{p with aO:=some ⟨g,0,none⟩,cO:=cp},rfl,?_,?_⟩,fun k hk ho=>?_⟩
  ·iterate 9 refine Below.setCell ?_ (by simp;have:=H0.out.ltR;omega) _
   exact HBD.out
  ·iterate 9 refine Mem.setOff (M:=(M.see 1 A).fault) ?_ HOZ.out _ _
   exact HMD.out.faulted
  ·iterate 9 rw[heap_setCell_other _ _ _ _ (show k≠w.heap.size+1+1 by omega)]
   exact HKD.out k hk ho
 ·have hh:h<M.nH:=by omega
  have hh':(h:Int)<M.nH:=by omega
  obtain⟨gH,haH⟩:∃gH,p.aH=some ⟨gH,0,none⟩:=by
   obtain⟨g',c',hv⟩:=row_some HM5.out.heaps (show 0<M.nH by omega)
   simp only[Value.slice.injEq]at hv
   exact⟨g',hv.1⟩
  have hrow:=HM5.out.heaps
  have hro2:w5.ownsRow base 69 3 (.slice (some ⟨gH,0,none⟩) M.nH p.cH) M.nH (first (M.nH*3) (heapF (place M.Hp p.blk p.cap))):=by rw[<-haH];exact hrow
  have zgH:=(hro2.lt gH rfl).2
  have hpp:=HHP.out h hh
  obtain⟨hb0,hl1,hl2,hbl⟩:=hpp
  have q0:w5.cell? ⟨gH,h*3,none⟩=some (.int .u64 (M.Hp h).base):=by
   have:=hro2.cellAt (h*3+0) (by omega)
   rw[first_at (by omega),heapF_0]at this
   simpa[place]using this
  have q1:w5.cell? ⟨gH,h*3+1,none⟩=some (.bool (M.Hp h).wr):=by
   have:=hro2.cellAt (h*3+1) (by omega)
   rw[first_at (by omega),heapF_1]at this
   simpa[place]using this
  have q2:w5.cell? ⟨gH,h*3+2,none⟩=some (.slice (some ⟨p.blk h,0,none⟩) (M.Hp h).len (p.cap h)):=by
   have:=hro2.cellAt (h*3+2) (by omega)
   rw[first_at (by omega),heapF_2]at this
   simpa[place]using this
  have n55':w5.cell? ⟨w.heap.size,5,none⟩=some (.slice (some ⟨gH,0,none⟩) M.nH p.cH):=by rw[n55,haH]
  have HAH:Hid (p.aH=some ⟨gH,0,none⟩):=haH
  clear hrow hro2 n55 haH
  go_upto_region 9 with fail
  rw[HW5.out]
  clear e0 e1 e2 e3 e4 e5 e6 e7 e8 x0 x1 x2 x3 x4 x5 t0 t1 t2 t3 t4 t5 t6 t7 t8 mfc sfc rac rdc fdc HW5
  go_wp2_with fail
  generalize hw6:w5.alloc (.cells #[.int .u64 (M.Hp h).base,.bool (M.Hp h).wr,.slice (some ⟨p.blk h,0,none⟩) (M.Hp h).len (p.cap h)] 69)=w6
  have b6:Below w5.heap.size w5 w6:=by rw[<-hw6];exact(Below.refl _ _).alloc (Nat.le_refl _) _
  have XH:w6.ownsRow w5.heap.size 69 3 (.slice (some ⟨w5.heap.size,0,none⟩) 1 1) 1 [.int .u64 (M.Hp h).base,.bool (M.Hp h).wr,.slice (some ⟨p.blk h,0,none⟩) (M.Hp h).len (p.cap h)]:=by rw[<-hw6];exact World.ownsRow_lit w5 #[.int .u64 (M.Hp h).base,.bool (M.Hp h).wr,.slice (some ⟨p.blk h,0,none⟩) (M.Hp h).len (p.cap h)] 1 (Nat.le_refl _) (by unfold maxLen;omega) rfl
  have zH6:w5.heap.size<w6.heap.size:=by rw[<-hw6];simp
  have g06:w6.cell? ⟨w5.heap.size,0,none⟩=some (.int .u64 (M.Hp h).base):=XH.cellAt 0 (by decide)
  have g16:w6.cell? ⟨w5.heap.size,1,none⟩=some (.bool (M.Hp h).wr):=XH.cellAt 1 (by decide)
  have g26:w6.cell? ⟨w5.heap.size,2,none⟩=some (.slice (some ⟨p.blk h,0,none⟩) (M.Hp h).len (p.cap h)):=XH.cellAt 2 (by decide)
  obtain⟨n06,n16,n26,n36,n46,n56,n66,n76,n86⟩:=c9b b6 z05 n05 n15 n25 n35 n45 n55' n65 n75 n85
  obtain⟨x06,x16,x26,x36,x46,x56⟩:=c6b b6 z15 x05 x15 x25 x35 x45 x55
  obtain⟨t06,t16,t26,t36,t46,t56,t66,t76,t86⟩:=c9b b6 z25 t05 t15 t25 t35 t45 t55 t65 t75 t85
  have tf6:∀i,w6.frozen? ⟨w.heap.size+1+1,i,none⟩=false:=fun i=>(b6.frozen (p:=⟨w.heap.size+1+1,i,none⟩) z25).trans (tf5 i)
  have rd6:=(b6.cell (p:=⟨p.bR,d,none⟩) zR5).trans rd5
  have fd6:=(b6.frozen (p:=⟨p.bR,d,none⟩) zR5).trans fd5
  have z06:w.heap.size<w6.heap.size:=Nat.lt_of_lt_of_le z05 b6.size
  have z16:w.heap.size+1<w6.heap.size:=Nat.lt_of_lt_of_le z15 b6.size
  have z26:w.heap.size+1+1<w6.heap.size:=Nat.lt_of_lt_of_le z25 b6.size
  have zR6:p.bR<w6.heap.size:=Nat.lt_of_lt_of_le zR5 b6.size
  have HM6:Hid (Mem w6 base {p with aO:=some ⟨g,0,none⟩,cO:=cp} (M.see 1 A)):=HM5.out.below b6
  have HB6:Hid (Below base w w6):=HB5.out.trans (b6.mono (by have:=HBS.out;omega))
  have HK6:Hid (∀k,k<w.heap.size->Off p M.nH M.nO k->w6.heap[k]?=w.heap[k]?):=fun k hk ho=>(b6.block k (by omega)).trans (HK5.out k hk ho)
  have z65:w5.heap.size<=w6.heap.size:=b6.size
  clear hw6 b6 XH n05 n15 n25 n35 n45 n55' n65 n75 n85 x05 x15 x25 x35 x45 x55 t05 t15 t25 t35 t45 t55 t65 t75 t85 tf5 rd5 fd5 q0 q1 q2
  have R0:∀w',Below w6.heap.size w6 w'->w'.cell? ⟨w5.heap.size,0,none⟩=some (.int .u64 (M.Hp h).base):=fun w' h=>(h.cell (p:=⟨w5.heap.size,0,none⟩) zH6).trans g06
  have R1:∀w',Below w6.heap.size w6 w'->w'.cell? ⟨w5.heap.size,1,none⟩=some (.bool (M.Hp h).wr):=fun w' h=>(h.cell (p:=⟨w5.heap.size,1,none⟩) zH6).trans g16
  have R2:∀w',Below w6.heap.size w6 w'->w'.cell? ⟨w5.heap.size,2,none⟩=some (.slice (some ⟨p.blk h,0,none⟩) (M.Hp h).len (p.cap h)):=fun w' h=>(h.cell (p:=⟨w5.heap.size,2,none⟩) zH6).trans g26
  by_cases c1:A<(M.Hp h).base
  ·have HC1:Hid (A<(M.Hp h).base):=c1
   refine wp_region_held_drew (S:=fun w'=>Below w6.heap.size w6 w') (by kernel_rfl) ((Below.refl _ _).drew) (fun hHeld=>?_)
   refine wpAnyH_tk 0 ?m1v0 rfl ?m1y0 ?m1r0
   case m1y0=>(intro w hSw;(try dsimp only at hSw);go_simp;try with_reducible rfl)
   try simp only[Act.put,List.getElem_toArray,List.getElem_cons_zero,List.setIfInBounds_toArray,List.set_cons_zero,List.set_cons_succ]
   refine wpAnyH_tk 1 ?m1v1 rfl ?m1y1 ?m1r1
   case m1y1=>(intro w hSw;(try dsimp only at hSw);go_simp;try with_reducible rfl)
   try simp only[Act.put,List.getElem_toArray,List.getElem_cons_zero,List.getElem_cons_succ,List.setIfInBounds_toArray,List.set_cons_zero,List.set_cons_succ]
   refine wpAnyH_tk 2 ?m1v2 rfl ?m1y2 ?m1r2
   case m1y2=>(intro w hSw;(try dsimp only at hSw);go_simp;try with_reducible rfl)
   try simp only[Act.put,List.getElem_toArray,List.getElem_cons_zero,List.getElem_cons_succ,List.setIfInBounds_toArray,List.set_cons_zero,List.set_cons_succ]
   refine wpAnyH_tk 3 ?m1v3 rfl ?m1y3 ?m1r3
   case m1y3=>(intro w hSw;(try dsimp only at hSw);go_simp;try with_reducible rfl)
   try simp only[Act.put,List.getElem_toArray,List.getElem_cons_zero,List.getElem_cons_succ,List.setIfInBounds_toArray,List.set_cons_zero,List.set_cons_succ]
   refine wpAnyH_tk 4 ?m1v4 rfl ?m1y4 ?m1r4
   case m1y4=>(intro w hSw;(try dsimp only at hSw);go_simp;try with_reducible rfl)
   try simp only[Act.put,List.getElem_toArray,List.getElem_cons_zero,List.getElem_cons_succ,List.setIfInBounds_toArray,List.set_cons_zero,List.set_cons_succ]
   refine wpAnyH_sk 5 rfl ?_
   try simp only[Act.put,List.getElem_toArray,List.getElem_cons_zero,List.getElem_cons_succ,List.setIfInBounds_toArray,List.set_cons_zero,List.set_cons_succ]
   refine wpAnyH_sk 6 rfl ?_
   try simp only[Act.put,List.getElem_toArray,List.getElem_cons_zero,List.getElem_cons_succ,List.setIfInBounds_toArray,List.set_cons_zero,List.set_cons_succ]
   refine wpAnyH_sk 7 rfl ?_
   try simp only[Act.put,List.getElem_toArray,List.getElem_cons_zero,List.getElem_cons_succ,List.setIfInBounds_toArray,List.set_cons_zero,List.set_cons_succ]
   refine wpAnyH_sk 8 rfl ?_
   try simp only[Act.put,List.getElem_toArray,List.getElem_cons_zero,List.getElem_cons_succ,List.setIfInBounds_toArray,List.set_cons_zero,List.set_cons_succ]
   refine wpAnyH_sk 9 rfl ?_
   try simp only[Act.put,List.getElem_toArray,List.getElem_cons_zero,List.getElem_cons_succ,List.setIfInBounds_toArray,List.set_cons_zero,List.set_cons_succ]
   refine wpAnyH_sk 10 rfl ?_
   try simp only[Act.put,List.getElem_toArray,List.getElem_cons_zero,List.getElem_cons_succ,List.setIfInBounds_toArray,List.set_cons_zero,List.set_cons_succ]
   refine wpAnyH_sk 11 rfl ?_
   try simp only[Act.put,List.getElem_toArray,List.getElem_cons_zero,List.getElem_cons_succ,List.setIfInBounds_toArray,List.set_cons_zero,List.set_cons_succ]
   refine wpAnyH_tk 12 ?m1v12 rfl ?m1y12 ?m1r12
   case m1y12=>(intro w hSw;(try dsimp only at hSw);go_simp;try with_reducible rfl)
   try simp only[Act.put,List.getElem_toArray,List.getElem_cons_zero,List.getElem_cons_succ,List.setIfInBounds_toArray,List.set_cons_zero,List.set_cons_succ]
   refine wpAnyH_tk 13 ?m1v13 rfl ?m1y13 ?m1r13
   case m1y13=>(intro w hSw;(try dsimp only at hSw);go_simp;try with_reducible rfl)
   try simp only[Act.put,List.getElem_toArray,List.getElem_cons_zero,List.getElem_cons_succ,List.setIfInBounds_toArray,List.set_cons_zero,List.set_cons_succ]
   refine wpAnyH_sk 14 rfl ?_
   try simp only[Act.put,List.getElem_toArray,List.getElem_cons_zero,List.getElem_cons_succ,List.setIfInBounds_toArray,List.set_cons_zero,List.set_cons_succ]
   refine wpAnyH_sk 15 rfl ?_
   try simp only[Act.put,List.getElem_toArray,List.getElem_cons_zero,List.getElem_cons_succ,List.setIfInBounds_toArray,List.set_cons_zero,List.set_cons_succ]
   refine wpAnyH_sk 17 rfl ?_
   try simp only[Act.put,List.getElem_toArray,List.getElem_cons_zero,List.getElem_cons_succ,List.setIfInBounds_toArray,List.set_cons_zero,List.set_cons_succ]
   refine wpAnyH_sk 18 rfl ?_
   try simp only[Act.put,List.getElem_toArray,List.getElem_cons_zero,List.getElem_cons_succ,List.setIfInBounds_toArray,List.set_cons_zero,List.set_cons_succ]
   refine wpAnyH_sk 19 rfl ?_
   try simp only[Act.put,List.getElem_toArray,List.getElem_cons_zero,List.getElem_cons_succ,List.setIfInBounds_toArray,List.set_cons_zero,List.set_cons_succ]
   refine wpAnyH_sk 20 rfl ?_
   try simp only[Act.put,List.getElem_toArray,List.getElem_cons_zero,List.getElem_cons_succ,List.setIfInBounds_toArray,List.set_cons_zero,List.set_cons_succ]
   refine wpAnyH_sk 16 rfl ?_
   try simp only[Act.put,List.getElem_toArray,List.getElem_cons_zero,List.getElem_cons_succ,List.setIfInBounds_toArray,List.set_cons_zero,List.set_cons_succ]
   refine wpAnyH_sk 21 rfl ?_
   try simp only[Act.put,List.getElem_toArray,List.getElem_cons_zero,List.getElem_cons_succ,List.setIfInBounds_toArray,List.set_cons_zero,List.set_cons_succ]
   refine wpAnyH_sk 22 rfl ?_
   try simp only[Act.put,List.getElem_toArray,List.getElem_cons_zero,List.getElem_cons_succ,List.setIfInBounds_toArray,List.set_cons_zero,List.set_cons_succ]
   refine wpAnyH_tk 23 ?m1v23 rfl ?m1y23 ?m1r23
   case m1y23=>(intro w hSw;(try dsimp only at hSw);go_simp;try with_reducible rfl)
   try simp only[Act.put,List.getElem_toArray,List.getElem_cons_zero,List.getElem_cons_succ,List.setIfInBounds_toArray,List.set_cons_zero,List.set_cons_succ]
   refine wpAnyH_tk 24 ?m1v24 rfl ?m1y24 ?m1r24
   case m1y24=>(intro w hSw;(try dsimp only at hSw);go_simp;try with_reducible rfl)
   try simp only[Act.put,List.getElem_toArray,List.getElem_cons_zero,List.getElem_cons_succ,List.setIfInBounds_toArray,List.set_cons_zero,List.set_cons_succ]
   refine wpAnyH_sk 25 rfl ?_
   try simp only[Act.put,List.getElem_toArray,List.getElem_cons_zero,List.getElem_cons_succ,List.setIfInBounds_toArray,List.set_cons_zero,List.set_cons_succ]
   refine wpAnyH_sk 26 rfl ?_
   try simp only[Act.put,List.getElem_toArray,List.getElem_cons_zero,List.getElem_cons_succ,List.setIfInBounds_toArray,List.set_cons_zero,List.set_cons_succ]
   refine wpAnyH_sk 27 rfl ?_
   try simp only[Act.put,List.getElem_toArray,List.getElem_cons_zero,List.getElem_cons_succ,List.setIfInBounds_toArray,List.set_cons_zero,List.set_cons_succ]
   refine wpAnyH_sk 28 rfl ?_
   try simp only[Act.put,List.getElem_toArray,List.getElem_cons_zero,List.getElem_cons_succ,List.setIfInBounds_toArray,List.set_cons_zero,List.set_cons_succ]
   refine wpAnyH_sk 29 rfl ?_
   try simp only[Act.put,List.getElem_toArray,List.getElem_cons_zero,List.getElem_cons_succ,List.setIfInBounds_toArray,List.set_cons_zero,List.set_cons_succ]
   refine wpAnyH_sk 30 rfl ?_
   try simp only[Act.put,List.getElem_toArray,List.getElem_cons_zero,List.getElem_cons_succ,List.setIfInBounds_toArray,List.set_cons_zero,List.set_cons_succ]
   refine wpAnyH_tk 31 ?m1v31 rfl ?m1y31 ?m1r31
   case m1y31=>(intro w hSw;(try dsimp only at hSw);go_simp;try with_reducible rfl)
   try simp only[Act.put,List.getElem_toArray,List.getElem_cons_zero,List.getElem_cons_succ,List.setIfInBounds_toArray,List.set_cons_zero,List.set_cons_succ]
   refine wpAnyH_done (by kernel_rfl) ?_ _
   have b7:Below w6.heap.size w6 w6.drew:=(Below.refl _ _).drew
   generalize hw7:w6.drew=w7 at b7⊢
   obtain⟨n07,n17,n27,n37,n47,n57,n67,n77,n87⟩:=c9b b7 z06 n06 n16 n26 n36 n46 n56 n66 n76 n86
   obtain⟨x07,x17,x27,x37,x47,x57⟩:=c6b b7 z16 x06 x16 x26 x36 x46 x56
   obtain⟨t07,t17,t27,t37,t47,t57,t67,t77,t87⟩:=c9b b7 z26 t06 t16 t26 t36 t46 t56 t66 t76 t86
   have tf7:∀i,w7.frozen? ⟨w.heap.size+1+1,i,none⟩=false:=fun i=>(b7.frozen (p:=⟨w.heap.size+1+1,i,none⟩) z26).trans (tf6 i)
   have rd7:=(b7.cell (p:=⟨p.bR,d,none⟩) zR6).trans rd6
   have fd7:=(b7.frozen (p:=⟨p.bR,d,none⟩) zR6).trans fd6
   have z07:w.heap.size<w7.heap.size:=Nat.lt_of_lt_of_le z06 b7.size
   have z17:w.heap.size+1<w7.heap.size:=Nat.lt_of_lt_of_le z16 b7.size
   have z27:w.heap.size+1+1<w7.heap.size:=Nat.lt_of_lt_of_le z26 b7.size
   have zR7:p.bR<w7.heap.size:=Nat.lt_of_lt_of_le zR6 b7.size
   have zH7:w5.heap.size<w7.heap.size:=Nat.lt_of_lt_of_le zH6 b7.size
   have g07:w7.cell? ⟨w5.heap.size,0,none⟩=some (.int .u64 (M.Hp h).base):=(b7.cell (p:=⟨w5.heap.size,0,none⟩) zH6).trans g06
   have g17:w7.cell? ⟨w5.heap.size,1,none⟩=some (.bool (M.Hp h).wr):=(b7.cell (p:=⟨w5.heap.size,1,none⟩) zH6).trans g16
   have g27:w7.cell? ⟨w5.heap.size,2,none⟩=some (.slice (some ⟨p.blk h,0,none⟩) (M.Hp h).len (p.cap h)):=(b7.cell (p:=⟨w5.heap.size,2,none⟩) zH6).trans g26
   have HM7:Hid (Mem w7 base {p with aO:=some ⟨g,0,none⟩,cO:=cp} (M.see 1 A)):=HM6.out.below b7
   have HB7:Hid (Below base w w7):=HB6.out.trans (b7.mono (by have:=HBS.out;omega))
   have HK7:Hid (∀k,k<w.heap.size->Off p M.nH M.nO k->w7.heap[k]?=w.heap[k]?):=fun k hk ho=>(b7.block k (by omega)).trans (HK6.out k hk ho)
   have z76:w6.heap.size<=w7.heap.size:=b7.size
   clear b7 hw7 R0 R1 R2 hHeld n06 n16 n26 n36 n46 n56 n66 n76 n86 x06 x16 x26 x36 x46 x56 t06 t16 t26 t36 t46 t56 t66 t76 t86 tf6 rd6 fd6 g06 g16 g26
   go_wp2_with fail
   refine(l1Fault_any _ _ _ _ _ _ _ _ _ _ _ _ _ _ _ _).mono ?_
   rintro e wd⟨rfl,bd⟩
   obtain⟨n0d,n1d,n2d,n3d,n4d,n5d,n6d,n7d,n8d⟩:=c9b bd z07 n07 n17 n27 n37 n47 n57 n67 n77 n87
   obtain⟨x0d,x1d,x2d,x3d,x4d,x5d⟩:=c6b bd z17 x07 x17 x27 x37 x47 x57
   obtain⟨t0d,t1d,t2d,t3d,t4d,t5d,t6d,t7d,t8d⟩:=c9b bd z27 t07 t17 t27 t37 t47 t57 t67 t77 t87
   have tfd:∀i,wd.frozen? ⟨w.heap.size+1+1,i,none⟩=false:=fun i=>(bd.frozen (p:=⟨w.heap.size+1+1,i,none⟩) z27).trans (tf7 i)
   have rdd:=(bd.cell (p:=⟨p.bR,d,none⟩) zR7).trans rd7
   have fdd:=(bd.frozen (p:=⟨p.bR,d,none⟩) zR7).trans fd7
   have z0d:w.heap.size<wd.heap.size:=Nat.lt_of_lt_of_le z07 bd.size
   have z1d:w.heap.size+1<wd.heap.size:=Nat.lt_of_lt_of_le z17 bd.size
   have z2d:w.heap.size+1+1<wd.heap.size:=Nat.lt_of_lt_of_le z27 bd.size
   have zRd:p.bR<wd.heap.size:=Nat.lt_of_lt_of_le zR7 bd.size
   have HMD:Hid (Mem wd base {p with aO:=some ⟨g,0,none⟩,cO:=cp} (M.see 1 A)):=HM7.out.below bd
   have HBD:Hid (Below base w wd):=HB7.out.trans (bd.mono (by have:=HBS.out;omega))
   have HKD:Hid (∀k,k<w.heap.size->Off p M.nH M.nO k->wd.heap[k]?=w.heap[k]?):=fun k hk ho=>(bd.block k (by omega)).trans (HK7.out k hk ho)
   clear bd n07 n17 n27 n37 n47 n57 n67 n77 n87 x07 x17 x27 x37 x47 x57 t07 t17 t27 t37 t47 t57 t67 t77 t87 tf7 rd7 fd7
   go_wp2
   refine bodyPost_ret (v:=.agg #[.slice (some ⟨p.bR,0,none⟩) 8 p.cR,.bool M.z,.bool M.c,.bool M.hz,.bool M.hc,.slice (some ⟨gH,0,none⟩) M.nH p.cH,.int .i64 M.pc,.int .i64 2,.slice (some ⟨g,0,none⟩) (M.nO+1) cp]) (by simp[results,Tryz.results127,go_sem,t0d,t1d,t2d,t3d,t4d,t5d,t6d,t7d,t8d]) rfl ?_
   rw[<-HAH.out]
   have hE4:RES=(M.see 1 A).fault:=by
    rw[HE3.out]
    unfold memOp
    rw[if_neg hH]
    have hq:(lies (M.Hp h).base A (wi:Nat) (M.Hp h).len&&(!true||(M.Hp h).wr))=false:=by
     unfold lies
     simp[show¬(M.Hp h).base<=A by omega]
    rw[hq]
    rfl
   rw[hE4]
   refine⟨⟨{p with aO:=some ⟨g,0,none⟩,cO:=cp},rfl,?_,?_⟩,fun k hk ho=>?_⟩
   ·iterate 9 refine Below.setCell ?_ (by simp;have:=H0.out.ltR;omega) _
    exact HBD.out
   ·iterate 9 refine Mem.setOff (M:=(M.see 1 A).fault) ?_ HOZ.out _ _
    exact HMD.out.faulted
   ·iterate 9 rw[heap_setCell_other _ _ _ _ (show k≠w.heap.size+1+1 by omega)]
    exact HKD.out k hk ho
  ·have hwr:IntKind.u64.wrap (A-(M.Hp h).base)=A-(M.Hp h).base:=by rw[u64_mod];omega
   by_cases c2:((M.Hp h).len:Int)<A-(M.Hp h).base
   ·refine wp_region_held_drew (S:=fun w'=>Below w6.heap.size w6 w') (by kernel_rfl) ((Below.refl _ _).drew) (fun hHeld=>?_)
    refine wpAnyH_tk 0 ?m2v0 rfl ?m2y0 ?m2r0
    case m2y0=>(intro w hSw;(try dsimp only at hSw);go_simp;try with_reducible rfl)
    try simp only[Act.put,List.getElem_toArray,List.getElem_cons_zero,List.setIfInBounds_toArray,List.set_cons_zero,List.set_cons_succ]
    refine wpAnyH_tk 1 ?m2v1 rfl ?m2y1 ?m2r1
    case m2y1=>(intro w hSw;(try dsimp only at hSw);go_simp;try with_reducible rfl)
    try simp only[Act.put,List.getElem_toArray,List.getElem_cons_zero,List.getElem_cons_succ,List.setIfInBounds_toArray,List.set_cons_zero,List.set_cons_succ]
    refine wpAnyH_tk 2 ?m2v2 rfl ?m2y2 ?m2r2
    case m2y2=>(intro w hSw;(try dsimp only at hSw);go_simp;try with_reducible rfl)
    try simp only[Act.put,List.getElem_toArray,List.getElem_cons_zero,List.getElem_cons_succ,List.setIfInBounds_toArray,List.set_cons_zero,List.set_cons_succ]
    refine wpAnyH_tk 3 ?m2v3 rfl ?m2y3 ?m2r3
    case m2y3=>(intro w hSw;(try dsimp only at hSw);go_simp;try with_reducible rfl)
    try simp only[Act.put,List.getElem_toArray,List.getElem_cons_zero,List.getElem_cons_succ,List.setIfInBounds_toArray,List.set_cons_zero,List.set_cons_succ]
    refine wpAnyH_tk 4 ?m2v4 rfl ?m2y4 ?m2r4
    case m2y4=>(intro w hSw;(try dsimp only at hSw);go_simp;try with_reducible rfl)
    try simp only[Act.put,List.getElem_toArray,List.getElem_cons_zero,List.getElem_cons_succ,List.setIfInBounds_toArray,List.set_cons_zero,List.set_cons_succ]
    refine wpAnyH_tk 5 ?m2v5 rfl ?m2y5 ?m2r5
    case m2y5=>(intro w hSw;(try dsimp only at hSw);go_simp;try with_reducible rfl)
    try simp only[Act.put,List.getElem_toArray,List.getElem_cons_zero,List.getElem_cons_succ,List.setIfInBounds_toArray,List.set_cons_zero,List.set_cons_succ]
    refine wpAnyH_tk 6 ?m2v6 rfl ?m2y6 ?m2r6
    case m2y6=>(intro w hSw;(try dsimp only at hSw);go_simp;try with_reducible rfl)
    try simp only[Act.put,List.getElem_toArray,List.getElem_cons_zero,List.getElem_cons_succ,List.setIfInBounds_toArray,List.set_cons_zero,List.set_cons_succ]
    refine wpAnyH_tk 7 ?m2v7 rfl ?m2y7 ?m2r7
    case m2y7=>(intro w hSw;(try dsimp only at hSw);go_simp;try with_reducible rfl)
    try simp only[Act.put,List.getElem_toArray,List.getElem_cons_zero,List.getElem_cons_succ,List.setIfInBounds_toArray,List.set_cons_zero,List.set_cons_succ]
    refine wpAnyH_tk 8 ?m2v8 rfl ?m2y8 ?m2r8
    case m2y8=>(intro w hSw;(try dsimp only at hSw);go_simp;try with_reducible rfl)
    try simp only[Act.put,List.getElem_toArray,List.getElem_cons_zero,List.getElem_cons_succ,List.setIfInBounds_toArray,List.set_cons_zero,List.set_cons_succ]
    refine wpAnyH_tk 9 ?m2v9 rfl ?m2y9 ?m2r9
    case m2y9=>(intro w hSw;(try dsimp only at hSw);go_simp;try with_reducible rfl)
    try simp only[Act.put,List.getElem_toArray,List.getElem_cons_zero,List.getElem_cons_succ,List.setIfInBounds_toArray,List.set_cons_zero,List.set_cons_succ]
    refine wpAnyH_ready (rs:=[10]) (by kernel_rfl) (by simp) ?_
    refine AllReadyH.cons rfl (fun K hK=>?_) AllReadyH.nil
    go_simp
    refine(size_any _ _ _ _ _ _ (show(M.Hp h).len<=1048576 by omega)).mono ?_
    rintro e w110⟨rfl,hq10⟩
    have hs10:Below w6.heap.size w6 w110:=Below.trans (by assumption) (hq10.mono (Below.size (B:=w6.heap.size) (w:=w6) (by assumption)))
    clear hq10
    go_wp2_with fail
    refine hK.out _ _ (by assumption) (fun hHeld10=>?_)
    clear hK K
    refine wpAnyH_tk 11 ?m2v11 rfl ?m2y11 ?m2r11
    case m2y11=>(intro w hSw;(try dsimp only at hSw);go_simp;try with_reducible rfl)
    try simp only[Act.put,List.getElem_toArray,List.getElem_cons_zero,List.getElem_cons_succ,List.setIfInBounds_toArray,List.set_cons_zero,List.set_cons_succ]
    refine wpAnyH_tk 12 ?m2v12 rfl ?m2y12 ?m2r12
    case m2y12=>(intro w hSw;(try dsimp only at hSw);go_simp;try with_reducible rfl)
    try simp only[Act.put,List.getElem_toArray,List.getElem_cons_zero,List.getElem_cons_succ,List.setIfInBounds_toArray,List.set_cons_zero,List.set_cons_succ]
    refine wpAnyH_tk 13 ?m2v13 rfl ?m2y13 ?m2r13
    case m2y13=>(intro w hSw;(try dsimp only at hSw);go_simp;try with_reducible rfl)
    try simp only[Act.put,List.getElem_toArray,List.getElem_cons_zero,List.getElem_cons_succ,List.setIfInBounds_toArray,List.set_cons_zero,List.set_cons_succ]
    refine wpAnyH_sk 14 rfl ?_
    try simp only[Act.put,List.getElem_toArray,List.getElem_cons_zero,List.getElem_cons_succ,List.setIfInBounds_toArray,List.set_cons_zero,List.set_cons_succ]
    refine wpAnyH_sk 15 rfl ?_
    try simp only[Act.put,List.getElem_toArray,List.getElem_cons_zero,List.getElem_cons_succ,List.setIfInBounds_toArray,List.set_cons_zero,List.set_cons_succ]
    refine wpAnyH_sk 17 rfl ?_
    try simp only[Act.put,List.getElem_toArray,List.getElem_cons_zero,List.getElem_cons_succ,List.setIfInBounds_toArray,List.set_cons_zero,List.set_cons_succ]
    refine wpAnyH_sk 18 rfl ?_
    try simp only[Act.put,List.getElem_toArray,List.getElem_cons_zero,List.getElem_cons_succ,List.setIfInBounds_toArray,List.set_cons_zero,List.set_cons_succ]
    refine wpAnyH_sk 19 rfl ?_
    try simp only[Act.put,List.getElem_toArray,List.getElem_cons_zero,List.getElem_cons_succ,List.setIfInBounds_toArray,List.set_cons_zero,List.set_cons_succ]
    refine wpAnyH_sk 20 rfl ?_
    try simp only[Act.put,List.getElem_toArray,List.getElem_cons_zero,List.getElem_cons_succ,List.setIfInBounds_toArray,List.set_cons_zero,List.set_cons_succ]
    refine wpAnyH_sk 16 rfl ?_
    try simp only[Act.put,List.getElem_toArray,List.getElem_cons_zero,List.getElem_cons_succ,List.setIfInBounds_toArray,List.set_cons_zero,List.set_cons_succ]
    refine wpAnyH_sk 21 rfl ?_
    try simp only[Act.put,List.getElem_toArray,List.getElem_cons_zero,List.getElem_cons_succ,List.setIfInBounds_toArray,List.set_cons_zero,List.set_cons_succ]
    refine wpAnyH_sk 22 rfl ?_
    try simp only[Act.put,List.getElem_toArray,List.getElem_cons_zero,List.getElem_cons_succ,List.setIfInBounds_toArray,List.set_cons_zero,List.set_cons_succ]
    refine wpAnyH_tk 23 ?m2v23 rfl ?m2y23 ?m2r23
    case m2y23=>(intro w hSw;(try dsimp only at hSw);go_simp;try with_reducible rfl)
    try simp only[Act.put,List.getElem_toArray,List.getElem_cons_zero,List.getElem_cons_succ,List.setIfInBounds_toArray,List.set_cons_zero,List.set_cons_succ]
    refine wpAnyH_tk 24 ?m2v24 rfl ?m2y24 ?m2r24
    case m2y24=>(intro w hSw;(try dsimp only at hSw);go_simp;try with_reducible rfl)
    try simp only[Act.put,List.getElem_toArray,List.getElem_cons_zero,List.getElem_cons_succ,List.setIfInBounds_toArray,List.set_cons_zero,List.set_cons_succ]
    refine wpAnyH_sk 25 rfl ?_
    try simp only[Act.put,List.getElem_toArray,List.getElem_cons_zero,List.getElem_cons_succ,List.setIfInBounds_toArray,List.set_cons_zero,List.set_cons_succ]
    refine wpAnyH_sk 26 rfl ?_
    try simp only[Act.put,List.getElem_toArray,List.getElem_cons_zero,List.getElem_cons_succ,List.setIfInBounds_toArray,List.set_cons_zero,List.set_cons_succ]
    refine wpAnyH_sk 27 rfl ?_
    try simp only[Act.put,List.getElem_toArray,List.getElem_cons_zero,List.getElem_cons_succ,List.setIfInBounds_toArray,List.set_cons_zero,List.set_cons_succ]
    refine wpAnyH_sk 28 rfl ?_
    try simp only[Act.put,List.getElem_toArray,List.getElem_cons_zero,List.getElem_cons_succ,List.setIfInBounds_toArray,List.set_cons_zero,List.set_cons_succ]
    refine wpAnyH_sk 29 rfl ?_
    try simp only[Act.put,List.getElem_toArray,List.getElem_cons_zero,List.getElem_cons_succ,List.setIfInBounds_toArray,List.set_cons_zero,List.set_cons_succ]
    refine wpAnyH_sk 30 rfl ?_
    try simp only[Act.put,List.getElem_toArray,List.getElem_cons_zero,List.getElem_cons_succ,List.setIfInBounds_toArray,List.set_cons_zero,List.set_cons_succ]
    refine wpAnyH_tk 31 ?m2v31 rfl ?m2y31 ?m2r31
    case m2y31=>(intro w hSw;(try dsimp only at hSw);go_simp;try with_reducible rfl)
    try simp only[Act.put,List.getElem_toArray,List.getElem_cons_zero,List.getElem_cons_succ,List.setIfInBounds_toArray,List.set_cons_zero,List.set_cons_succ]
    refine wpAnyH_done (by kernel_rfl) ?_ _
    have b7:Below w6.heap.size w6 w110:=hs10
    generalize hw7:w110=w7 at b7⊢
    obtain⟨n07,n17,n27,n37,n47,n57,n67,n77,n87⟩:=c9b b7 z06 n06 n16 n26 n36 n46 n56 n66 n76 n86
    obtain⟨x07,x17,x27,x37,x47,x57⟩:=c6b b7 z16 x06 x16 x26 x36 x46 x56
    obtain⟨t07,t17,t27,t37,t47,t57,t67,t77,t87⟩:=c9b b7 z26 t06 t16 t26 t36 t46 t56 t66 t76 t86
    have tf7:∀i,w7.frozen? ⟨w.heap.size+1+1,i,none⟩=false:=fun i=>(b7.frozen (p:=⟨w.heap.size+1+1,i,none⟩) z26).trans (tf6 i)
    have rd7:=(b7.cell (p:=⟨p.bR,d,none⟩) zR6).trans rd6
    have fd7:=(b7.frozen (p:=⟨p.bR,d,none⟩) zR6).trans fd6
    have z07:w.heap.size<w7.heap.size:=Nat.lt_of_lt_of_le z06 b7.size
    have z17:w.heap.size+1<w7.heap.size:=Nat.lt_of_lt_of_le z16 b7.size
    have z27:w.heap.size+1+1<w7.heap.size:=Nat.lt_of_lt_of_le z26 b7.size
    have zR7:p.bR<w7.heap.size:=Nat.lt_of_lt_of_le zR6 b7.size
    have zH7:w5.heap.size<w7.heap.size:=Nat.lt_of_lt_of_le zH6 b7.size
    have g07:w7.cell? ⟨w5.heap.size,0,none⟩=some (.int .u64 (M.Hp h).base):=(b7.cell (p:=⟨w5.heap.size,0,none⟩) zH6).trans g06
    have g17:w7.cell? ⟨w5.heap.size,1,none⟩=some (.bool (M.Hp h).wr):=(b7.cell (p:=⟨w5.heap.size,1,none⟩) zH6).trans g16
    have g27:w7.cell? ⟨w5.heap.size,2,none⟩=some (.slice (some ⟨p.blk h,0,none⟩) (M.Hp h).len (p.cap h)):=(b7.cell (p:=⟨w5.heap.size,2,none⟩) zH6).trans g26
    have HM7:Hid (Mem w7 base {p with aO:=some ⟨g,0,none⟩,cO:=cp} (M.see 1 A)):=HM6.out.below b7
    have HB7:Hid (Below base w w7):=HB6.out.trans (b7.mono (by have:=HBS.out;omega))
    have HK7:Hid (∀k,k<w.heap.size->Off p M.nH M.nO k->w7.heap[k]?=w.heap[k]?):=fun k hk ho=>(b7.block k (by omega)).trans (HK6.out k hk ho)
    have z76:w6.heap.size<=w7.heap.size:=b7.size
    clear b7 hw7 R0 R1 R2 hHeld hs10 hHeld10 n06 n16 n26 n36 n46 n56 n66 n76 n86 x06 x16 x26 x36 x46 x56 t06 t16 t26 t36 t46 t56 t66 t76 t86 tf6 rd6 fd6 g06 g16 g26
    go_wp2_with fail
    refine(l1Fault_any _ _ _ _ _ _ _ _ _ _ _ _ _ _ _ _).mono ?_
    rintro e wd⟨rfl,bd⟩
    obtain⟨n0d,n1d,n2d,n3d,n4d,n5d,n6d,n7d,n8d⟩:=c9b bd z07 n07 n17 n27 n37 n47 n57 n67 n77 n87
    obtain⟨x0d,x1d,x2d,x3d,x4d,x5d⟩:=c6b bd z17 x07 x17 x27 x37 x47 x57
    obtain⟨t0d,t1d,t2d,t3d,t4d,t5d,t6d,t7d,t8d⟩:=c9b bd z27 t07 t17 t27 t37 t47 t57 t67 t77 t87
    have tfd:∀i,wd.frozen? ⟨w.heap.size+1+1,i,none⟩=false:=fun i=>(bd.frozen (p:=⟨w.heap.size+1+1,i,none⟩) z27).trans (tf7 i)
    have rdd:=(bd.cell (p:=⟨p.bR,d,none⟩) zR7).trans rd7
    have fdd:=(bd.frozen (p:=⟨p.bR,d,none⟩) zR7).trans fd7
    have z0d:w.heap.size<wd.heap.size:=Nat.lt_of_lt_of_le z07 bd.size
    have z1d:w.heap.size+1<wd.heap.size:=Nat.lt_of_lt_of_le z17 bd.size
    have z2d:w.heap.size+1+1<wd.heap.size:=Nat.lt_of_lt_of_le z27 bd.size
    have zRd:p.bR<wd.heap.size:=Nat.lt_of_lt_of_le zR7 bd.size
    have HMD:Hid (Mem wd base {p with aO:=some ⟨g,0,none⟩,cO:=cp} (M.see 1 A)):=HM7.out.below bd
    have HBD:Hid (Below base w wd):=HB7.out.trans (bd.mono (by have:=HBS.out;omega))
    have HKD:Hid (∀k,k<w.heap.size->Off p M.nH M.nO k->wd.heap[k]?=w.heap[k]?):=fun k hk ho=>(bd.block k (by omega)).trans (HK7.out k hk ho)
    clear bd n07 n17 n27 n37 n47 n57 n67 n77 n87 x07 x17 x27 x37 x47 x57 t07 t17 t27 t37 t47 t57 t67 t77 t87 tf7 rd7 fd7
    go_wp2
    refine bodyPost_ret (v:=.agg #[.slice (some ⟨p.bR,0,none⟩) 8 p.cR,.bool M.z,.bool M.c,.bool M.hz,.bool M.hc,.slice (some ⟨gH,0,none⟩) M.nH p.cH,.int .i64 M.pc,.int .i64 2,.slice (some ⟨g,0,none⟩) (M.nO+1) cp]) (by simp[results,Tryz.results127,go_sem,t0d,t1d,t2d,t3d,t4d,t5d,t6d,t7d,t8d]) rfl ?_
    rw[<-HAH.out]
    have hE4:RES=(M.see 1 A).fault:=by
     rw[HE3.out]
     unfold memOp
     rw[if_neg hH]
     have hq:(lies (M.Hp h).base A (wi:Nat) (M.Hp h).len&&(!true||(M.Hp h).wr))=false:=by
      unfold lies
      simp[show¬A-(M.Hp h).base<=((M.Hp h).len:Int)-wi by omega]
     rw[hq]
     rfl
    rw[hE4]
    refine⟨⟨{p with aO:=some ⟨g,0,none⟩,cO:=cp},rfl,?_,?_⟩,fun k hk ho=>?_⟩
    ·iterate 9 refine Below.setCell ?_ (by simp;have:=H0.out.ltR;omega) _
     exact HBD.out
    ·iterate 9 refine Mem.setOff (M:=(M.see 1 A).fault) ?_ HOZ.out _ _
     exact HMD.out.faulted
    ·iterate 9 rw[heap_setCell_other _ _ _ _ (show k≠w.heap.size+1+1 by omega)]
     exact HKD.out k hk ho
   ·have hwr2:IntKind.u64.wrap (((M.Hp h).len:Int)-(A-(M.Hp h).base))=((M.Hp h).len:Int)-(A-(M.Hp h).base):=by rw[u64_mod];omega
    have hd2:decide (((M.Hp h).len:Int)<A-(M.Hp h).base)=false:=by simp;omega
    by_cases c3:((M.Hp h).len:Int)-(A-(M.Hp h).base)<wi
    ·refine wp_region_held_drew (S:=fun w'=>Below w6.heap.size w6 w') (by kernel_rfl) ((Below.refl _ _).drew) (fun hHeld=>?_)
     refine wpAnyH_tk 0 ?m3v0 rfl ?m3y0 ?m3r0
     case m3y0=>(intro w hSw;(try dsimp only at hSw);go_simp;try with_reducible rfl)
     try simp only[Act.put,List.getElem_toArray,List.getElem_cons_zero,List.setIfInBounds_toArray,List.set_cons_zero,List.set_cons_succ]
     refine wpAnyH_tk 1 ?m3v1 rfl ?m3y1 ?m3r1
     case m3y1=>(intro w hSw;(try dsimp only at hSw);go_simp;try with_reducible rfl)
     try simp only[Act.put,List.getElem_toArray,List.getElem_cons_zero,List.getElem_cons_succ,List.setIfInBounds_toArray,List.set_cons_zero,List.set_cons_succ]
     refine wpAnyH_tk 2 ?m3v2 rfl ?m3y2 ?m3r2
     case m3y2=>(intro w hSw;(try dsimp only at hSw);go_simp;try with_reducible rfl)
     try simp only[Act.put,List.getElem_toArray,List.getElem_cons_zero,List.getElem_cons_succ,List.setIfInBounds_toArray,List.set_cons_zero,List.set_cons_succ]
     refine wpAnyH_tk 3 ?m3v3 rfl ?m3y3 ?m3r3
     case m3y3=>(intro w hSw;(try dsimp only at hSw);go_simp;try with_reducible rfl)
     try simp only[Act.put,List.getElem_toArray,List.getElem_cons_zero,List.getElem_cons_succ,List.setIfInBounds_toArray,List.set_cons_zero,List.set_cons_succ]
     refine wpAnyH_tk 4 ?m3v4 rfl ?m3y4 ?m3r4
     case m3y4=>(intro w hSw;(try dsimp only at hSw);go_simp;try with_reducible rfl)
     try simp only[Act.put,List.getElem_toArray,List.getElem_cons_zero,List.getElem_cons_succ,List.setIfInBounds_toArray,List.set_cons_zero,List.set_cons_succ]
     refine wpAnyH_tk 5 ?m3v5 rfl ?m3y5 ?m3r5
     case m3y5=>(intro w hSw;(try dsimp only at hSw);go_simp;try with_reducible rfl)
     try simp only[Act.put,List.getElem_toArray,List.getElem_cons_zero,List.getElem_cons_succ,List.setIfInBounds_toArray,List.set_cons_zero,List.set_cons_succ]
     refine wpAnyH_tk 6 ?m3v6 rfl ?m3y6 ?m3r6
     case m3y6=>(intro w hSw;(try dsimp only at hSw);go_simp;try with_reducible rfl)
     try simp only[Act.put,List.getElem_toArray,List.getElem_cons_zero,List.getElem_cons_succ,List.setIfInBounds_toArray,List.set_cons_zero,List.set_cons_succ]
     refine wpAnyH_tk 7 ?m3v7 rfl ?m3y7 ?m3r7
     case m3y7=>(intro w hSw;(try dsimp only at hSw);go_simp;try with_reducible rfl)
     try simp only[Act.put,List.getElem_toArray,List.getElem_cons_zero,List.getElem_cons_succ,List.setIfInBounds_toArray,List.set_cons_zero,List.set_cons_succ]
     refine wpAnyH_tk 8 ?m3v8 rfl ?m3y8 ?m3r8
     case m3y8=>(intro w hSw;(try dsimp only at hSw);go_simp;try with_reducible rfl)
     try simp only[Act.put,List.getElem_toArray,List.getElem_cons_zero,List.getElem_cons_succ,List.setIfInBounds_toArray,List.set_cons_zero,List.set_cons_succ]
     refine wpAnyH_tk 9 ?m3v9 rfl ?m3y9 ?m3r9
     case m3y9=>(intro w hSw;(try dsimp only at hSw);go_simp;try with_reducible rfl)
     try simp only[Act.put,List.getElem_toArray,List.getElem_cons_zero,List.getElem_cons_succ,List.setIfInBounds_toArray,List.set_cons_zero,List.set_cons_succ]
     refine wpAnyH_ready (rs:=[10]) (by kernel_rfl) (by simp) ?_
     refine AllReadyH.cons rfl (fun K hK=>?_) AllReadyH.nil
     go_simp
     refine(size_any _ _ _ _ _ _ (show(M.Hp h).len<=1048576 by omega)).mono ?_
     rintro e w110⟨rfl,hq10⟩
     have hs10:Below w6.heap.size w6 w110:=Below.trans (by assumption) (hq10.mono (Below.size (B:=w6.heap.size) (w:=w6) (by assumption)))
     clear hq10
     go_wp2_with fail
     refine hK.out _ _ (by assumption) (fun hHeld10=>?_)
     clear hK K
     refine wpAnyH_tk 11 ?m3v11 rfl ?m3y11 ?m3r11
     case m3y11=>(intro w hSw;(try dsimp only at hSw);go_simp;try with_reducible rfl)
     try simp only[Act.put,List.getElem_toArray,List.getElem_cons_zero,List.getElem_cons_succ,List.setIfInBounds_toArray,List.set_cons_zero,List.set_cons_succ]
     refine wpAnyH_tk 12 ?m3v12 rfl ?m3y12 ?m3r12
     case m3y12=>(intro w hSw;(try dsimp only at hSw);go_simp;try with_reducible rfl)
     try simp only[Act.put,List.getElem_toArray,List.getElem_cons_zero,List.getElem_cons_succ,List.setIfInBounds_toArray,List.set_cons_zero,List.set_cons_succ]
     refine wpAnyH_tk 13 ?m3v13 rfl ?m3y13 ?m3r13
     case m3y13=>(intro w hSw;(try dsimp only at hSw);go_simp;try with_reducible rfl)
     try simp only[Act.put,List.getElem_toArray,List.getElem_cons_zero,List.getElem_cons_succ,List.setIfInBounds_toArray,List.set_cons_zero,List.set_cons_succ]
     refine wpAnyH_tk 14 ?m3v14 rfl ?m3y14 ?m3r14
     case m3y14=>(intro w hSw;(try dsimp only at hSw);go_simp;try with_reducible rfl)
     try simp only[Act.put,List.getElem_toArray,List.getElem_cons_zero,List.getElem_cons_succ,List.setIfInBounds_toArray,List.set_cons_zero,List.set_cons_succ]
     refine wpAnyH_tk 15 ?m3v15 rfl ?m3y15 ?m3r15
     case m3y15=>(intro w hSw;(try dsimp only at hSw);go_simp;try with_reducible rfl)
     try simp only[Act.put,List.getElem_toArray,List.getElem_cons_zero,List.getElem_cons_succ,List.setIfInBounds_toArray,List.set_cons_zero,List.set_cons_succ]
     refine wpAnyH_tk 17 ?m3v17 rfl ?m3y17 ?m3r17
     case m3y17=>(intro w hSw;(try dsimp only at hSw);go_simp;try with_reducible rfl)
     try simp only[Act.put,List.getElem_toArray,List.getElem_cons_zero,List.getElem_cons_succ,List.setIfInBounds_toArray,List.set_cons_zero,List.set_cons_succ]
     refine wpAnyH_tk 18 ?m3v18 rfl ?m3y18 ?m3r18
     case m3y18=>(intro w hSw;(try dsimp only at hSw);go_simp;try with_reducible rfl)
     try simp only[Act.put,List.getElem_toArray,List.getElem_cons_zero,List.getElem_cons_succ,List.setIfInBounds_toArray,List.set_cons_zero,List.set_cons_succ]
     refine wpAnyH_tk 19 ?m3v19 rfl ?m3y19 ?m3r19
     case m3y19=>(intro w hSw;(try dsimp only at hSw);go_simp;try with_reducible rfl)
     try simp only[Act.put,List.getElem_toArray,List.getElem_cons_zero,List.getElem_cons_succ,List.setIfInBounds_toArray,List.set_cons_zero,List.set_cons_succ]
     refine wpAnyH_tk 20 ?m3v20 rfl ?m3y20 ?m3r20
     case m3y20=>(intro w hSw;(try dsimp only at hSw);go_simp;try with_reducible rfl)
     try simp only[Act.put,List.getElem_toArray,List.getElem_cons_zero,List.getElem_cons_succ,List.setIfInBounds_toArray,List.set_cons_zero,List.set_cons_succ]
     refine wpAnyH_ready (rs:=[16]) (by kernel_rfl) (by simp) ?_
     refine AllReadyH.cons rfl (fun K hK=>?_) AllReadyH.nil
     go_simp
     refine(size_any _ _ _ _ _ _ (show(M.Hp h).len<=1048576 by omega)).mono ?_
     rintro e w116⟨rfl,hq16⟩
     have hs16:Below w6.heap.size w6 w116:=Below.trans (by assumption) (hq16.mono (Below.size (B:=w6.heap.size) (w:=w6) (by assumption)))
     clear hq16
     go_wp2_with fail
     refine hK.out _ _ (by assumption) (fun hHeld16=>?_)
     clear hK K
     refine wpAnyH_tk 21 ?m3v21 rfl ?m3y21 ?m3r21
     case m3y21=>(intro w hSw;(try dsimp only at hSw);go_simp;try with_reducible rfl)
     try simp only[Act.put,List.getElem_toArray,List.getElem_cons_zero,List.getElem_cons_succ,List.setIfInBounds_toArray,List.set_cons_zero,List.set_cons_succ]
     refine wpAnyH_tk 22 ?m3v22 rfl ?m3y22 ?m3r22
     case m3y22=>(intro w hSw;(try dsimp only at hSw);go_simp;try with_reducible rfl)
     try simp only[Act.put,List.getElem_toArray,List.getElem_cons_zero,List.getElem_cons_succ,List.setIfInBounds_toArray,List.set_cons_zero,List.set_cons_succ]
     refine wpAnyH_tk 23 ?m3v23 rfl ?m3y23 ?m3r23
     case m3y23=>(intro w hSw;(try dsimp only at hSw);go_simp;try with_reducible rfl)
     try simp only[Act.put,List.getElem_toArray,List.getElem_cons_zero,List.getElem_cons_succ,List.setIfInBounds_toArray,List.set_cons_zero,List.set_cons_succ]
     refine wpAnyH_tk 24 ?m3v24 rfl ?m3y24 ?m3r24
     case m3y24=>(intro w hSw;(try dsimp only at hSw);go_simp;try with_reducible rfl)
     try simp only[Act.put,List.getElem_toArray,List.getElem_cons_zero,List.getElem_cons_succ,List.setIfInBounds_toArray,List.set_cons_zero,List.set_cons_succ]
     refine wpAnyH_sk 25 rfl ?_
     try simp only[Act.put,List.getElem_toArray,List.getElem_cons_zero,List.getElem_cons_succ,List.setIfInBounds_toArray,List.set_cons_zero,List.set_cons_succ]
     refine wpAnyH_sk 26 rfl ?_
     try simp only[Act.put,List.getElem_toArray,List.getElem_cons_zero,List.getElem_cons_succ,List.setIfInBounds_toArray,List.set_cons_zero,List.set_cons_succ]
     refine wpAnyH_sk 27 rfl ?_
     try simp only[Act.put,List.getElem_toArray,List.getElem_cons_zero,List.getElem_cons_succ,List.setIfInBounds_toArray,List.set_cons_zero,List.set_cons_succ]
     refine wpAnyH_sk 28 rfl ?_
     try simp only[Act.put,List.getElem_toArray,List.getElem_cons_zero,List.getElem_cons_succ,List.setIfInBounds_toArray,List.set_cons_zero,List.set_cons_succ]
     refine wpAnyH_sk 29 rfl ?_
     try simp only[Act.put,List.getElem_toArray,List.getElem_cons_zero,List.getElem_cons_succ,List.setIfInBounds_toArray,List.set_cons_zero,List.set_cons_succ]
     refine wpAnyH_sk 30 rfl ?_
     try simp only[Act.put,List.getElem_toArray,List.getElem_cons_zero,List.getElem_cons_succ,List.setIfInBounds_toArray,List.set_cons_zero,List.set_cons_succ]
     refine wpAnyH_tk 31 ?m3v31 rfl ?m3y31 ?m3r31
     case m3y31=>(intro w hSw;(try dsimp only at hSw);go_simp;try with_reducible rfl)
     try simp only[Act.put,List.getElem_toArray,List.getElem_cons_zero,List.getElem_cons_succ,List.setIfInBounds_toArray,List.set_cons_zero,List.set_cons_succ]
     refine wpAnyH_done (by kernel_rfl) ?_ _
     have b7:Below w6.heap.size w6 w116:=hs16
     generalize hw7:w116=w7 at b7⊢
     obtain⟨n07,n17,n27,n37,n47,n57,n67,n77,n87⟩:=c9b b7 z06 n06 n16 n26 n36 n46 n56 n66 n76 n86
     obtain⟨x07,x17,x27,x37,x47,x57⟩:=c6b b7 z16 x06 x16 x26 x36 x46 x56
     obtain⟨t07,t17,t27,t37,t47,t57,t67,t77,t87⟩:=c9b b7 z26 t06 t16 t26 t36 t46 t56 t66 t76 t86
     have tf7:∀i,w7.frozen? ⟨w.heap.size+1+1,i,none⟩=false:=fun i=>(b7.frozen (p:=⟨w.heap.size+1+1,i,none⟩) z26).trans (tf6 i)
     have rd7:=(b7.cell (p:=⟨p.bR,d,none⟩) zR6).trans rd6
     have fd7:=(b7.frozen (p:=⟨p.bR,d,none⟩) zR6).trans fd6
     have z07:w.heap.size<w7.heap.size:=Nat.lt_of_lt_of_le z06 b7.size
     have z17:w.heap.size+1<w7.heap.size:=Nat.lt_of_lt_of_le z16 b7.size
     have z27:w.heap.size+1+1<w7.heap.size:=Nat.lt_of_lt_of_le z26 b7.size
     have zR7:p.bR<w7.heap.size:=Nat.lt_of_lt_of_le zR6 b7.size
     have zH7:w5.heap.size<w7.heap.size:=Nat.lt_of_lt_of_le zH6 b7.size
     have g07:w7.cell? ⟨w5.heap.size,0,none⟩=some (.int .u64 (M.Hp h).base):=(b7.cell (p:=⟨w5.heap.size,0,none⟩) zH6).trans g06
     have g17:w7.cell? ⟨w5.heap.size,1,none⟩=some (.bool (M.Hp h).wr):=(b7.cell (p:=⟨w5.heap.size,1,none⟩) zH6).trans g16
     have g27:w7.cell? ⟨w5.heap.size,2,none⟩=some (.slice (some ⟨p.blk h,0,none⟩) (M.Hp h).len (p.cap h)):=(b7.cell (p:=⟨w5.heap.size,2,none⟩) zH6).trans g26
     have HM7:Hid (Mem w7 base {p with aO:=some ⟨g,0,none⟩,cO:=cp} (M.see 1 A)):=HM6.out.below b7
     have HB7:Hid (Below base w w7):=HB6.out.trans (b7.mono (by have:=HBS.out;omega))
     have HK7:Hid (∀k,k<w.heap.size->Off p M.nH M.nO k->w7.heap[k]?=w.heap[k]?):=fun k hk ho=>(b7.block k (by omega)).trans (HK6.out k hk ho)
     have z76:w6.heap.size<=w7.heap.size:=b7.size
     clear b7 hw7 R0 R1 R2 hHeld hs10 hHeld10 hs16 hHeld16 n06 n16 n26 n36 n46 n56 n66 n76 n86 x06 x16 x26 x36 x46 x56 t06 t16 t26 t36 t46 t56 t66 t76 t86 tf6 rd6 fd6 g06 g16 g26
     go_wp2_with fail
     refine(l1Fault_any _ _ _ _ _ _ _ _ _ _ _ _ _ _ _ _).mono ?_
     rintro e wd⟨rfl,bd⟩
     obtain⟨n0d,n1d,n2d,n3d,n4d,n5d,n6d,n7d,n8d⟩:=c9b bd z07 n07 n17 n27 n37 n47 n57 n67 n77 n87
     obtain⟨x0d,x1d,x2d,x3d,x4d,x5d⟩:=c6b bd z17 x07 x17 x27 x37 x47 x57
     obtain⟨t0d,t1d,t2d,t3d,t4d,t5d,t6d,t7d,t8d⟩:=c9b bd z27 t07 t17 t27 t37 t47 t57 t67 t77 t87
     have tfd:∀i,wd.frozen? ⟨w.heap.size+1+1,i,none⟩=false:=fun i=>(bd.frozen (p:=⟨w.heap.size+1+1,i,none⟩) z27).trans (tf7 i)
     have rdd:=(bd.cell (p:=⟨p.bR,d,none⟩) zR7).trans rd7
     have fdd:=(bd.frozen (p:=⟨p.bR,d,none⟩) zR7).trans fd7
     have z0d:w.heap.size<wd.heap.size:=Nat.lt_of_lt_of_le z07 bd.size
     have z1d:w.heap.size+1<wd.heap.size:=Nat.lt_of_lt_of_le z17 bd.size
     have z2d:w.heap.size+1+1<wd.heap.size:=Nat.lt_of_lt_of_le z27 bd.size
     have zRd:p.bR<wd.heap.size:=Nat.lt_of_lt_of_le zR7 bd.size
     have HMD:Hid (Mem wd base {p with aO:=some ⟨g,0,none⟩,cO:=cp} (M.see 1 A)):=HM7.out.below bd
     have HBD:Hid (Below base w wd):=HB7.out.trans (bd.mono (by have:=HBS.out;omega))
     have HKD:Hid (∀k,k<w.heap.size->Off p M.nH M.nO k->wd.heap[k]?=w.heap[k]?):=fun k hk ho=>(bd.block k (by omega)).trans (HK7.out k hk ho)
     clear bd n07 n17 n27 n37 n47 n57 n67 n77 n87 x07 x17 x27 x37 x47 x57 t07 t17 t27 t37 t47 t57 t67 t77 t87 tf7 rd7 fd7
     go_wp2
     refine bodyPost_ret (v:=.agg #[.slice (some ⟨p.bR,0,none⟩) 8 p.cR,.bool M.z,.bool M.c,.bool M.hz,.bool M.hc,.slice (some ⟨gH,0,none⟩) M.nH p.cH,.int .i64 M.pc,.int .i64 2,.slice (some ⟨g,0,none⟩) (M.nO+1) cp]) (by simp[results,Tryz.results127,go_sem,t0d,t1d,t2d,t3d,t4d,t5d,t6d,t7d,t8d]) rfl ?_
     rw[<-HAH.out]
     have hE4:RES=(M.see 1 A).fault:=by
      rw[HE3.out]
      unfold memOp
      rw[if_neg hH]
      have hq:(lies (M.Hp h).base A (wi:Nat) (M.Hp h).len&&(!true||(M.Hp h).wr))=false:=by
       unfold lies
       simp[show¬A-(M.Hp h).base<=((M.Hp h).len:Int)-wi by omega]
      rw[hq]
      rfl
     rw[hE4]
     refine⟨⟨{p with aO:=some ⟨g,0,none⟩,cO:=cp},rfl,?_,?_⟩,fun k hk ho=>?_⟩
     ·iterate 9 refine Below.setCell ?_ (by simp;have:=H0.out.ltR;omega) _
      exact HBD.out
     ·iterate 9 refine Mem.setOff (M:=(M.see 1 A).fault) ?_ HOZ.out _ _
      exact HMD.out.faulted
     ·iterate 9 rw[heap_setCell_other _ _ _ _ (show k≠w.heap.size+1+1 by omega)]
      exact HKD.out k hk ho
    ·have hd3:decide (((M.Hp h).len:Int)-(A-(M.Hp h).base)<wi)=false:=by simp;omega
     cases hw:(M.Hp h).wr with
     |false=>
      rw[hw]at g16
      have R1':∀w',Below w6.heap.size w6 w'->w'.cell? ⟨w5.heap.size,1,none⟩=some (.bool false):=fun w' h=>(h.cell (p:=⟨w5.heap.size,1,none⟩) zH6).trans g16
      clear R1
      refine wp_region_held_drew (S:=fun w'=>Below w6.heap.size w6 w') (by kernel_rfl) ((Below.refl _ _).drew) (fun hHeld=>?_)
      refine wpAnyH_tk 0 ?m5v0 rfl ?m5y0 ?m5r0
      case m5y0=>(intro w hSw;(try dsimp only at hSw);go_simp;try with_reducible rfl)
      try simp only[Act.put,List.getElem_toArray,List.getElem_cons_zero,List.setIfInBounds_toArray,List.set_cons_zero,List.set_cons_succ]
      refine wpAnyH_tk 1 ?m5v1 rfl ?m5y1 ?m5r1
      case m5y1=>(intro w hSw;(try dsimp only at hSw);go_simp;try with_reducible rfl)
      try simp only[Act.put,List.getElem_toArray,List.getElem_cons_zero,List.getElem_cons_succ,List.setIfInBounds_toArray,List.set_cons_zero,List.set_cons_succ]
      refine wpAnyH_tk 2 ?m5v2 rfl ?m5y2 ?m5r2
      case m5y2=>(intro w hSw;(try dsimp only at hSw);go_simp;try with_reducible rfl)
      try simp only[Act.put,List.getElem_toArray,List.getElem_cons_zero,List.getElem_cons_succ,List.setIfInBounds_toArray,List.set_cons_zero,List.set_cons_succ]
      refine wpAnyH_tk 3 ?m5v3 rfl ?m5y3 ?m5r3
      case m5y3=>(intro w hSw;(try dsimp only at hSw);go_simp;try with_reducible rfl)
      try simp only[Act.put,List.getElem_toArray,List.getElem_cons_zero,List.getElem_cons_succ,List.setIfInBounds_toArray,List.set_cons_zero,List.set_cons_succ]
      refine wpAnyH_tk 4 ?m5v4 rfl ?m5y4 ?m5r4
      case m5y4=>(intro w hSw;(try dsimp only at hSw);go_simp;try with_reducible rfl)
      try simp only[Act.put,List.getElem_toArray,List.getElem_cons_zero,List.getElem_cons_succ,List.setIfInBounds_toArray,List.set_cons_zero,List.set_cons_succ]
      refine wpAnyH_tk 5 ?m5v5 rfl ?m5y5 ?m5r5
      case m5y5=>(intro w hSw;(try dsimp only at hSw);go_simp;try with_reducible rfl)
      try simp only[Act.put,List.getElem_toArray,List.getElem_cons_zero,List.getElem_cons_succ,List.setIfInBounds_toArray,List.set_cons_zero,List.set_cons_succ]
      refine wpAnyH_tk 6 ?m5v6 rfl ?m5y6 ?m5r6
      case m5y6=>(intro w hSw;(try dsimp only at hSw);go_simp;try with_reducible rfl)
      try simp only[Act.put,List.getElem_toArray,List.getElem_cons_zero,List.getElem_cons_succ,List.setIfInBounds_toArray,List.set_cons_zero,List.set_cons_succ]
      refine wpAnyH_tk 7 ?m5v7 rfl ?m5y7 ?m5r7
      case m5y7=>(intro w hSw;(try dsimp only at hSw);go_simp;try with_reducible rfl)
      try simp only[Act.put,List.getElem_toArray,List.getElem_cons_zero,List.getElem_cons_succ,List.setIfInBounds_toArray,List.set_cons_zero,List.set_cons_succ]
      refine wpAnyH_tk 8 ?m5v8 rfl ?m5y8 ?m5r8
      case m5y8=>(intro w hSw;(try dsimp only at hSw);go_simp;try with_reducible rfl)
      try simp only[Act.put,List.getElem_toArray,List.getElem_cons_zero,List.getElem_cons_succ,List.setIfInBounds_toArray,List.set_cons_zero,List.set_cons_succ]
      refine wpAnyH_tk 9 ?m5v9 rfl ?m5y9 ?m5r9
      case m5y9=>(intro w hSw;(try dsimp only at hSw);go_simp;try with_reducible rfl)
      try simp only[Act.put,List.getElem_toArray,List.getElem_cons_zero,List.getElem_cons_succ,List.setIfInBounds_toArray,List.set_cons_zero,List.set_cons_succ]
      refine wpAnyH_ready (rs:=[10]) (by kernel_rfl) (by simp) ?_
      refine AllReadyH.cons rfl (fun K hK=>?_) AllReadyH.nil
      go_simp
      refine(size_any _ _ _ _ _ _ (show(M.Hp h).len<=1048576 by omega)).mono ?_
      rintro e w110⟨rfl,hq10⟩
      have hs10:Below w6.heap.size w6 w110:=Below.trans (by assumption) (hq10.mono (Below.size (B:=w6.heap.size) (w:=w6) (by assumption)))
      clear hq10
      go_wp2_with fail
      refine hK.out _ _ (by assumption) (fun hHeld10=>?_)
      clear hK K
      refine wpAnyH_tk 11 ?m5v11 rfl ?m5y11 ?m5r11
      case m5y11=>(intro w hSw;(try dsimp only at hSw);go_simp;try with_reducible rfl)
      try simp only[Act.put,List.getElem_toArray,List.getElem_cons_zero,List.getElem_cons_succ,List.setIfInBounds_toArray,List.set_cons_zero,List.set_cons_succ]
      refine wpAnyH_tk 12 ?m5v12 rfl ?m5y12 ?m5r12
      case m5y12=>(intro w hSw;(try dsimp only at hSw);go_simp;try with_reducible rfl)
      try simp only[Act.put,List.getElem_toArray,List.getElem_cons_zero,List.getElem_cons_succ,List.setIfInBounds_toArray,List.set_cons_zero,List.set_cons_succ]
      refine wpAnyH_tk 13 ?m5v13 rfl ?m5y13 ?m5r13
      case m5y13=>(intro w hSw;(try dsimp only at hSw);go_simp;try with_reducible rfl)
      try simp only[Act.put,List.getElem_toArray,List.getElem_cons_zero,List.getElem_cons_succ,List.setIfInBounds_toArray,List.set_cons_zero,List.set_cons_succ]
      refine wpAnyH_tk 14 ?m5v14 rfl ?m5y14 ?m5r14
      case m5y14=>(intro w hSw;(try dsimp only at hSw);go_simp;try with_reducible rfl)
      try simp only[Act.put,List.getElem_toArray,List.getElem_cons_zero,List.getElem_cons_succ,List.setIfInBounds_toArray,List.set_cons_zero,List.set_cons_succ]
      refine wpAnyH_tk 15 ?m5v15 rfl ?m5y15 ?m5r15
      case m5y15=>(intro w hSw;(try dsimp only at hSw);go_simp;try with_reducible rfl)
      try simp only[Act.put,List.getElem_toArray,List.getElem_cons_zero,List.getElem_cons_succ,List.setIfInBounds_toArray,List.set_cons_zero,List.set_cons_succ]
      refine wpAnyH_tk 17 ?m5v17 rfl ?m5y17 ?m5r17
      case m5y17=>(intro w hSw;(try dsimp only at hSw);go_simp;try with_reducible rfl)
      try simp only[Act.put,List.getElem_toArray,List.getElem_cons_zero,List.getElem_cons_succ,List.setIfInBounds_toArray,List.set_cons_zero,List.set_cons_succ]
      refine wpAnyH_tk 18 ?m5v18 rfl ?m5y18 ?m5r18
      case m5y18=>(intro w hSw;(try dsimp only at hSw);go_simp;try with_reducible rfl)
      try simp only[Act.put,List.getElem_toArray,List.getElem_cons_zero,List.getElem_cons_succ,List.setIfInBounds_toArray,List.set_cons_zero,List.set_cons_succ]
      refine wpAnyH_tk 19 ?m5v19 rfl ?m5y19 ?m5r19
      case m5y19=>(intro w hSw;(try dsimp only at hSw);go_simp;try with_reducible rfl)
      try simp only[Act.put,List.getElem_toArray,List.getElem_cons_zero,List.getElem_cons_succ,List.setIfInBounds_toArray,List.set_cons_zero,List.set_cons_succ]
      refine wpAnyH_tk 20 ?m5v20 rfl ?m5y20 ?m5r20
      case m5y20=>(intro w hSw;(try dsimp only at hSw);go_simp;try with_reducible rfl)
      try simp only[Act.put,List.getElem_toArray,List.getElem_cons_zero,List.getElem_cons_succ,List.setIfInBounds_toArray,List.set_cons_zero,List.set_cons_succ]
      refine wpAnyH_ready (rs:=[16]) (by kernel_rfl) (by simp) ?_
      refine AllReadyH.cons rfl (fun K hK=>?_) AllReadyH.nil
      go_simp
      refine(size_any _ _ _ _ _ _ (show(M.Hp h).len<=1048576 by omega)).mono ?_
      rintro e w116⟨rfl,hq16⟩
      have hs16:Below w6.heap.size w6 w116:=Below.trans (by assumption) (hq16.mono (Below.size (B:=w6.heap.size) (w:=w6) (by assumption)))
      clear hq16
      go_wp2_with fail
      refine hK.out _ _ (by assumption) (fun hHeld16=>?_)
      clear hK K
      refine wpAnyH_tk 21 ?m5v21 rfl ?m5y21 ?m5r21
      case m5y21=>(intro w hSw;(try dsimp only at hSw);go_simp;try with_reducible rfl)
      try simp only[Act.put,List.getElem_toArray,List.getElem_cons_zero,List.getElem_cons_succ,List.setIfInBounds_toArray,List.set_cons_zero,List.set_cons_succ]
      refine wpAnyH_tk 22 ?m5v22 rfl ?m5y22 ?m5r22
      case m5y22=>(intro w hSw;(try dsimp only at hSw);go_simp;try with_reducible rfl)
      try simp only[Act.put,List.getElem_toArray,List.getElem_cons_zero,List.getElem_cons_succ,List.setIfInBounds_toArray,List.set_cons_zero,List.set_cons_succ]
      refine wpAnyH_tk 23 ?m5v23 rfl ?m5y23 ?m5r23
      case m5y23=>(intro w hSw;(try dsimp only at hSw);go_simp;try with_reducible rfl)
      try simp only[Act.put,List.getElem_toArray,List.getElem_cons_zero,List.getElem_cons_succ,List.setIfInBounds_toArray,List.set_cons_zero,List.set_cons_succ]
      refine wpAnyH_tk 24 ?m5v24 rfl ?m5y24 ?m5r24
      case m5y24=>(intro w hSw;(try dsimp only at hSw);go_simp;try with_reducible rfl)
      try simp only[Act.put,List.getElem_toArray,List.getElem_cons_zero,List.getElem_cons_succ,List.setIfInBounds_toArray,List.set_cons_zero,List.set_cons_succ]
      refine wpAnyH_tk 25 ?m5v25 rfl ?m5y25 ?m5r25
      case m5y25=>(intro w hSw;(try dsimp only at hSw);go_simp;try with_reducible rfl)
      try simp only[Act.put,List.getElem_toArray,List.getElem_cons_zero,List.getElem_cons_succ,List.setIfInBounds_toArray,List.set_cons_zero,List.set_cons_succ]
      refine wpAnyH_tk 26 ?m5v26 rfl ?m5y26 ?m5r26
      case m5y26=>(intro w hSw;(try dsimp only at hSw);go_simp;try with_reducible rfl)
      try simp only[Act.put,List.getElem_toArray,List.getElem_cons_zero,List.getElem_cons_succ,List.setIfInBounds_toArray,List.set_cons_zero,List.set_cons_succ]
      refine wpAnyH_tk 27 ?m5v27 rfl ?m5y27 ?m5r27
      case m5y27=>(intro w hSw;(try dsimp only at hSw);go_simp;try with_reducible rfl)
      try simp only[Act.put,List.getElem_toArray,List.getElem_cons_zero,List.getElem_cons_succ,List.setIfInBounds_toArray,List.set_cons_zero,List.set_cons_succ]
      refine wpAnyH_tk 28 ?m5v28 rfl ?m5y28 ?m5r28
      case m5y28=>(intro w hSw;(try dsimp only at hSw);go_simp;try with_reducible rfl)
      try simp only[Act.put,List.getElem_toArray,List.getElem_cons_zero,List.getElem_cons_succ,List.setIfInBounds_toArray,List.set_cons_zero,List.set_cons_succ]
      refine wpAnyH_tk 29 ?m5v29 rfl ?m5y29 ?m5r29
      case m5y29=>(intro w hSw;(try dsimp only at hSw);go_simp;try with_reducible rfl)
      try simp only[Act.put,List.getElem_toArray,List.getElem_cons_zero,List.getElem_cons_succ,List.setIfInBounds_toArray,List.set_cons_zero,List.set_cons_succ]
      refine wpAnyH_tk 30 ?m5v30 rfl ?m5y30 ?m5r30
      case m5y30=>(intro w hSw;(try dsimp only at hSw);go_simp;try with_reducible rfl)
      try simp only[Act.put,List.getElem_toArray,List.getElem_cons_zero,List.getElem_cons_succ,List.setIfInBounds_toArray,List.set_cons_zero,List.set_cons_succ]
      refine wpAnyH_tk 31 ?m5v31 rfl ?m5y31 ?m5r31
      case m5y31=>(intro w hSw;(try dsimp only at hSw);go_simp;try with_reducible rfl)
      try simp only[Act.put,List.getElem_toArray,List.getElem_cons_zero,List.getElem_cons_succ,List.setIfInBounds_toArray,List.set_cons_zero,List.set_cons_succ]
      refine wpAnyH_done (by kernel_rfl) ?_ _
      have b7:Below w6.heap.size w6 w116:=hs16
      generalize hw7:w116=w7 at b7⊢
      obtain⟨n07,n17,n27,n37,n47,n57,n67,n77,n87⟩:=c9b b7 z06 n06 n16 n26 n36 n46 n56 n66 n76 n86
      obtain⟨x07,x17,x27,x37,x47,x57⟩:=c6b b7 z16 x06 x16 x26 x36 x46 x56
      obtain⟨t07,t17,t27,t37,t47,t57,t67,t77,t87⟩:=c9b b7 z26 t06 t16 t26 t36 t46 t56 t66 t76 t86
      have tf7:∀i,w7.frozen? ⟨w.heap.size+1+1,i,none⟩=false:=fun i=>(b7.frozen (p:=⟨w.heap.size+1+1,i,none⟩) z26).trans (tf6 i)
      have rd7:=(b7.cell (p:=⟨p.bR,d,none⟩) zR6).trans rd6
      have fd7:=(b7.frozen (p:=⟨p.bR,d,none⟩) zR6).trans fd6
      have z07:w.heap.size<w7.heap.size:=Nat.lt_of_lt_of_le z06 b7.size
      have z17:w.heap.size+1<w7.heap.size:=Nat.lt_of_lt_of_le z16 b7.size
      have z27:w.heap.size+1+1<w7.heap.size:=Nat.lt_of_lt_of_le z26 b7.size
      have zR7:p.bR<w7.heap.size:=Nat.lt_of_lt_of_le zR6 b7.size
      have zH7:w5.heap.size<w7.heap.size:=Nat.lt_of_lt_of_le zH6 b7.size
      have g07:w7.cell? ⟨w5.heap.size,0,none⟩=some (.int .u64 (M.Hp h).base):=(b7.cell (p:=⟨w5.heap.size,0,none⟩) zH6).trans g06
      have g17:w7.cell? ⟨w5.heap.size,1,none⟩=some (.bool false):=(b7.cell (p:=⟨w5.heap.size,1,none⟩) zH6).trans g16
      have g27:w7.cell? ⟨w5.heap.size,2,none⟩=some (.slice (some ⟨p.blk h,0,none⟩) (M.Hp h).len (p.cap h)):=(b7.cell (p:=⟨w5.heap.size,2,none⟩) zH6).trans g26
      have HM7:Hid (Mem w7 base {p with aO:=some ⟨g,0,none⟩,cO:=cp} (M.see 1 A)):=HM6.out.below b7
      have HB7:Hid (Below base w w7):=HB6.out.trans (b7.mono (by have:=HBS.out;omega))
      have HK7:Hid (∀k,k<w.heap.size->Off p M.nH M.nO k->w7.heap[k]?=w.heap[k]?):=fun k hk ho=>(b7.block k (by omega)).trans (HK6.out k hk ho)
      have z76:w6.heap.size<=w7.heap.size:=b7.size
      clear b7 hw7 R0 R1' R2 hHeld hs10 hHeld10 hs16 hHeld16 n06 n16 n26 n36 n46 n56 n66 n76 n86 x06 x16 x26 x36 x46 x56 t06 t16 t26 t36 t46 t56 t66 t76 t86 tf6 rd6 fd6 g06 g16 g26
      go_wp2_with fail
      refine(l1Fault_any _ _ _ _ _ _ _ _ _ _ _ _ _ _ _ _).mono ?_
      rintro e wd⟨rfl,bd⟩
      obtain⟨n0d,n1d,n2d,n3d,n4d,n5d,n6d,n7d,n8d⟩:=c9b bd z07 n07 n17 n27 n37 n47 n57 n67 n77 n87
      obtain⟨x0d,x1d,x2d,x3d,x4d,x5d⟩:=c6b bd z17 x07 x17 x27 x37 x47 x57
      obtain⟨t0d,t1d,t2d,t3d,t4d,t5d,t6d,t7d,t8d⟩:=c9b bd z27 t07 t17 t27 t37 t47 t57 t67 t77 t87
      have tfd:∀i,wd.frozen? ⟨w.heap.size+1+1,i,none⟩=false:=fun i=>(bd.frozen (p:=⟨w.heap.size+1+1,i,none⟩) z27).trans (tf7 i)
      have rdd:=(bd.cell (p:=⟨p.bR,d,none⟩) zR7).trans rd7
      have fdd:=(bd.frozen (p:=⟨p.bR,d,none⟩) zR7).trans fd7
      have z0d:w.heap.size<wd.heap.size:=Nat.lt_of_lt_of_le z07 bd.size
      have z1d:w.heap.size+1<wd.heap.size:=Nat.lt_of_lt_of_le z17 bd.size
      have z2d:w.heap.size+1+1<wd.heap.size:=Nat.lt_of_lt_of_le z27 bd.size
      have zRd:p.bR<wd.heap.size:=Nat.lt_of_lt_of_le zR7 bd.size
      have HMD:Hid (Mem wd base {p with aO:=some ⟨g,0,none⟩,cO:=cp} (M.see 1 A)):=HM7.out.below bd
      have HBD:Hid (Below base w wd):=HB7.out.trans (bd.mono (by have:=HBS.out;omega))
      have HKD:Hid (∀k,k<w.heap.size->Off p M.nH M.nO k->wd.heap[k]?=w.heap[k]?):=fun k hk ho=>(bd.block k (by omega)).trans (HK7.out k hk ho)
      clear bd n07 n17 n27 n37 n47 n57 n67 n77 n87 x07 x17 x27 x37 x47 x57 t07 t17 t27 t37 t47 t57 t67 t77 t87 tf7 rd7 fd7
      go_wp2
      refine bodyPost_ret (v:=.agg #[.slice (some ⟨p.bR,0,none⟩) 8 p.cR,.bool M.z,.bool M.c,.bool M.hz,.bool M.hc,.slice (some ⟨gH,0,none⟩) M.nH p.cH,.int .i64 M.pc,.int .i64 2,.slice (some ⟨g,0,none⟩) (M.nO+1) cp]) (by simp[results,Tryz.results127,go_sem,t0d,t1d,t2d,t3d,t4d,t5d,t6d,t7d,t8d]) rfl ?_
      rw[<-HAH.out]
      have hE4:RES=(M.see 1 A).fault:=by
       rw[HE3.out]
       unfold memOp
       rw[if_neg hH]
       have hq:(lies (M.Hp h).base A (wi:Nat) (M.Hp h).len&&(!true||(M.Hp h).wr))=false:=by
        unfold lies
        simp[hw]
       rw[hq]
       rfl
      rw[hE4]
      refine⟨⟨{p with aO:=some ⟨g,0,none⟩,cO:=cp},rfl,?_,?_⟩,fun k hk ho=>?_⟩
      ·iterate 9 refine Below.setCell ?_ (by simp;have:=H0.out.ltR;omega) _
       exact HBD.out
      ·iterate 9 refine Mem.setOff (M:=(M.see 1 A).fault) ?_ HOZ.out _ _
       exact HMD.out.faulted
      ·iterate 9 rw[heap_setCell_other _ _ _ _ (show k≠w.heap.size+1+1 by omega)]
       exact HKD.out k hk ho
     |true=>
      rw[hw]at g16
      have R1':∀w',Below w6.heap.size w6 w'->w'.cell? ⟨w5.heap.size,1,none⟩=some (.bool true):=fun w' h=>(h.cell (p:=⟨w5.heap.size,1,none⟩) zH6).trans g16
      clear R1
      obtain⟨o,ho⟩:∃o:Nat,A-(M.Hp h).base=o:=Int.eq_ofNat_of_zero_le (by omega)
      have hol:o+wi<=(M.Hp h).len:=by omega
      have HO:Hid (A-(M.Hp h).base=o):=ho
      clear ho
      refine wp_region_held_drew (S:=fun w'=>Below w6.heap.size w6 w') (by kernel_rfl) ((Below.refl _ _).drew) (fun hHeld=>?_)
      refine wpAnyH_tk 0 ?m4v0 rfl ?m4y0 ?m4r0
      case m4y0=>(intro w hSw;(try dsimp only at hSw);go_simp;try with_reducible rfl)
      try simp only[Act.put,List.getElem_toArray,List.getElem_cons_zero,List.setIfInBounds_toArray,List.set_cons_zero,List.set_cons_succ]
      refine wpAnyH_tk 1 ?m4v1 rfl ?m4y1 ?m4r1
      case m4y1=>(intro w hSw;(try dsimp only at hSw);go_simp;try with_reducible rfl)
      try simp only[Act.put,List.getElem_toArray,List.getElem_cons_zero,List.getElem_cons_succ,List.setIfInBounds_toArray,List.set_cons_zero,List.set_cons_succ]
      refine wpAnyH_tk 2 ?m4v2 rfl ?m4y2 ?m4r2
      case m4y2=>(intro w hSw;(try dsimp only at hSw);go_simp;try with_reducible rfl)
      try simp only[Act.put,List.getElem_toArray,List.getElem_cons_zero,List.getElem_cons_succ,List.setIfInBounds_toArray,List.set_cons_zero,List.set_cons_succ]
      refine wpAnyH_tk 3 ?m4v3 rfl ?m4y3 ?m4r3
      case m4y3=>(intro w hSw;(try dsimp only at hSw);go_simp;try with_reducible rfl)
      try simp only[Act.put,List.getElem_toArray,List.getElem_cons_zero,List.getElem_cons_succ,List.setIfInBounds_toArray,List.set_cons_zero,List.set_cons_succ]
      refine wpAnyH_tk 4 ?m4v4 rfl ?m4y4 ?m4r4
      case m4y4=>(intro w hSw;(try dsimp only at hSw);go_simp;try with_reducible rfl)
      try simp only[Act.put,List.getElem_toArray,List.getElem_cons_zero,List.getElem_cons_succ,List.setIfInBounds_toArray,List.set_cons_zero,List.set_cons_succ]
      refine wpAnyH_tk 5 ?m4v5 rfl ?m4y5 ?m4r5
      case m4y5=>(intro w hSw;(try dsimp only at hSw);go_simp;try with_reducible rfl)
      try simp only[Act.put,List.getElem_toArray,List.getElem_cons_zero,List.getElem_cons_succ,List.setIfInBounds_toArray,List.set_cons_zero,List.set_cons_succ]
      refine wpAnyH_tk 6 ?m4v6 rfl ?m4y6 ?m4r6
      case m4y6=>(intro w hSw;(try dsimp only at hSw);go_simp;try with_reducible rfl)
      try simp only[Act.put,List.getElem_toArray,List.getElem_cons_zero,List.getElem_cons_succ,List.setIfInBounds_toArray,List.set_cons_zero,List.set_cons_succ]
      refine wpAnyH_tk 7 ?m4v7 rfl ?m4y7 ?m4r7
      case m4y7=>(intro w hSw;(try dsimp only at hSw);go_simp;try with_reducible rfl)
      try simp only[Act.put,List.getElem_toArray,List.getElem_cons_zero,List.getElem_cons_succ,List.setIfInBounds_toArray,List.set_cons_zero,List.set_cons_succ]
      refine wpAnyH_tk 8 ?m4v8 rfl ?m4y8 ?m4r8
      case m4y8=>(intro w hSw;(try dsimp only at hSw);go_simp;try with_reducible rfl)
      try simp only[Act.put,List.getElem_toArray,List.getElem_cons_zero,List.getElem_cons_succ,List.setIfInBounds_toArray,List.set_cons_zero,List.set_cons_succ]
      refine wpAnyH_tk 9 ?m4v9 rfl ?m4y9 ?m4r9
      case m4y9=>(intro w hSw;(try dsimp only at hSw);go_simp;try with_reducible rfl)
      try simp only[Act.put,List.getElem_toArray,List.getElem_cons_zero,List.getElem_cons_succ,List.setIfInBounds_toArray,List.set_cons_zero,List.set_cons_succ]
      refine wpAnyH_ready (rs:=[10]) (by kernel_rfl) (by simp) ?_
      refine AllReadyH.cons rfl (fun K hK=>?_) AllReadyH.nil
      go_simp
      refine(size_any _ _ _ _ _ _ (show(M.Hp h).len<=1048576 by omega)).mono ?_
      rintro e w110⟨rfl,hq10⟩
      have hs10:Below w6.heap.size w6 w110:=Below.trans (by assumption) (hq10.mono (Below.size (B:=w6.heap.size) (w:=w6) (by assumption)))
      clear hq10
      go_wp2_with fail
      refine hK.out _ _ (by assumption) (fun hHeld10=>?_)
      clear hK K
      refine wpAnyH_tk 11 ?m4v11 rfl ?m4y11 ?m4r11
      case m4y11=>(intro w hSw;(try dsimp only at hSw);go_simp;try with_reducible rfl)
      try simp only[Act.put,List.getElem_toArray,List.getElem_cons_zero,List.getElem_cons_succ,List.setIfInBounds_toArray,List.set_cons_zero,List.set_cons_succ]
      refine wpAnyH_tk 12 ?m4v12 rfl ?m4y12 ?m4r12
      case m4y12=>(intro w hSw;(try dsimp only at hSw);go_simp;try with_reducible rfl)
      try simp only[Act.put,List.getElem_toArray,List.getElem_cons_zero,List.getElem_cons_succ,List.setIfInBounds_toArray,List.set_cons_zero,List.set_cons_succ]
      refine wpAnyH_tk 13 ?m4v13 rfl ?m4y13 ?m4r13
      case m4y13=>(intro w hSw;(try dsimp only at hSw);go_simp;try with_reducible rfl)
      try simp only[Act.put,List.getElem_toArray,List.getElem_cons_zero,List.getElem_cons_succ,List.setIfInBounds_toArray,List.set_cons_zero,List.set_cons_succ]
      refine wpAnyH_tk 14 ?m4v14 rfl ?m4y14 ?m4r14
      case m4y14=>(intro w hSw;(try dsimp only at hSw);go_simp;try with_reducible rfl)
      try simp only[Act.put,List.getElem_toArray,List.getElem_cons_zero,List.getElem_cons_succ,List.setIfInBounds_toArray,List.set_cons_zero,List.set_cons_succ]
      refine wpAnyH_tk 15 ?m4v15 rfl ?m4y15 ?m4r15
      case m4y15=>(intro w hSw;(try dsimp only at hSw);go_simp;try with_reducible rfl)
      try simp only[Act.put,List.getElem_toArray,List.getElem_cons_zero,List.getElem_cons_succ,List.setIfInBounds_toArray,List.set_cons_zero,List.set_cons_succ]
      refine wpAnyH_tk 17 ?m4v17 rfl ?m4y17 ?m4r17
      case m4y17=>(intro w hSw;(try dsimp only at hSw);go_simp;try with_reducible rfl)
      try simp only[Act.put,List.getElem_toArray,List.getElem_cons_zero,List.getElem_cons_succ,List.setIfInBounds_toArray,List.set_cons_zero,List.set_cons_succ]
      refine wpAnyH_tk 18 ?m4v18 rfl ?m4y18 ?m4r18
      case m4y18=>(intro w hSw;(try dsimp only at hSw);go_simp;try with_reducible rfl)
      try simp only[Act.put,List.getElem_toArray,List.getElem_cons_zero,List.getElem_cons_succ,List.setIfInBounds_toArray,List.set_cons_zero,List.set_cons_succ]
      refine wpAnyH_tk 19 ?m4v19 rfl ?m4y19 ?m4r19
      case m4y19=>(intro w hSw;(try dsimp only at hSw);go_simp;try with_reducible rfl)
      try simp only[Act.put,List.getElem_toArray,List.getElem_cons_zero,List.getElem_cons_succ,List.setIfInBounds_toArray,List.set_cons_zero,List.set_cons_succ]
      refine wpAnyH_tk 20 ?m4v20 rfl ?m4y20 ?m4r20
      case m4y20=>(intro w hSw;(try dsimp only at hSw);go_simp;try with_reducible rfl)
      try simp only[Act.put,List.getElem_toArray,List.getElem_cons_zero,List.getElem_cons_succ,List.setIfInBounds_toArray,List.set_cons_zero,List.set_cons_succ]
      refine wpAnyH_ready (rs:=[16]) (by kernel_rfl) (by simp) ?_
      refine AllReadyH.cons rfl (fun K hK=>?_) AllReadyH.nil
      go_simp
      refine(size_any _ _ _ _ _ _ (show(M.Hp h).len<=1048576 by omega)).mono ?_
      rintro e w116⟨rfl,hq16⟩
      have hs16:Below w6.heap.size w6 w116:=Below.trans (by assumption) (hq16.mono (Below.size (B:=w6.heap.size) (w:=w6) (by assumption)))
      clear hq16
      go_wp2_with fail
      refine hK.out _ _ (by assumption) (fun hHeld16=>?_)
      clear hK K
      refine wpAnyH_tk 21 ?m4v21 rfl ?m4y21 ?m4r21
      case m4y21=>(intro w hSw;(try dsimp only at hSw);go_simp;try with_reducible rfl)
      try simp only[Act.put,List.getElem_toArray,List.getElem_cons_zero,List.getElem_cons_succ,List.setIfInBounds_toArray,List.set_cons_zero,List.set_cons_succ]
      refine wpAnyH_tk 22 ?m4v22 rfl ?m4y22 ?m4r22
      case m4y22=>(intro w hSw;(try dsimp only at hSw);go_simp;try with_reducible rfl)
      try simp only[Act.put,List.getElem_toArray,List.getElem_cons_zero,List.getElem_cons_succ,List.setIfInBounds_toArray,List.set_cons_zero,List.set_cons_succ]
      refine wpAnyH_tk 23 ?m4v23 rfl ?m4y23 ?m4r23
      case m4y23=>(intro w hSw;(try dsimp only at hSw);go_simp;try with_reducible rfl)
      try simp only[Act.put,List.getElem_toArray,List.getElem_cons_zero,List.getElem_cons_succ,List.setIfInBounds_toArray,List.set_cons_zero,List.set_cons_succ]
      refine wpAnyH_tk 24 ?m4v24 rfl ?m4y24 ?m4r24
      case m4y24=>(intro w hSw;(try dsimp only at hSw);go_simp;try with_reducible rfl)
      try simp only[Act.put,List.getElem_toArray,List.getElem_cons_zero,List.getElem_cons_succ,List.setIfInBounds_toArray,List.set_cons_zero,List.set_cons_succ]
      refine wpAnyH_tk 25 ?m4v25 rfl ?m4y25 ?m4r25
      case m4y25=>(intro w hSw;(try dsimp only at hSw);go_simp;try with_reducible rfl)
      try simp only[Act.put,List.getElem_toArray,List.getElem_cons_zero,List.getElem_cons_succ,List.setIfInBounds_toArray,List.set_cons_zero,List.set_cons_succ]
      refine wpAnyH_tk 26 ?m4v26 rfl ?m4y26 ?m4r26
      case m4y26=>(intro w hSw;(try dsimp only at hSw);go_simp;try with_reducible rfl)
      try simp only[Act.put,List.getElem_toArray,List.getElem_cons_zero,List.getElem_cons_succ,List.setIfInBounds_toArray,List.set_cons_zero,List.set_cons_succ]
      refine wpAnyH_tk 27 ?m4v27 rfl ?m4y27 ?m4r27
      case m4y27=>(intro w hSw;(try dsimp only at hSw);go_simp;try with_reducible rfl)
      try simp only[Act.put,List.getElem_toArray,List.getElem_cons_zero,List.getElem_cons_succ,List.setIfInBounds_toArray,List.set_cons_zero,List.set_cons_succ]
      refine wpAnyH_tk 28 ?m4v28 rfl ?m4y28 ?m4r28
      case m4y28=>(intro w hSw;(try dsimp only at hSw);go_simp;try with_reducible rfl)
      try simp only[Act.put,List.getElem_toArray,List.getElem_cons_zero,List.getElem_cons_succ,List.setIfInBounds_toArray,List.set_cons_zero,List.set_cons_succ]
      refine wpAnyH_tk 29 ?m4v29 rfl ?m4y29 ?m4r29
      case m4y29=>(intro w hSw;(try dsimp only at hSw);go_simp;try with_reducible rfl)
      try simp only[Act.put,List.getElem_toArray,List.getElem_cons_zero,List.getElem_cons_succ,List.setIfInBounds_toArray,List.set_cons_zero,List.set_cons_succ]
      refine wpAnyH_tk 30 ?m4v30 rfl ?m4y30 ?m4r30
      case m4y30=>(intro w hSw;(try dsimp only at hSw);go_simp;try with_reducible rfl)
      try simp only[Act.put,List.getElem_toArray,List.getElem_cons_zero,List.getElem_cons_succ,List.setIfInBounds_toArray,List.set_cons_zero,List.set_cons_succ]
      refine wpAnyH_tk 31 ?m4v31 rfl ?m4y31 ?m4r31
      case m4y31=>(intro w hSw;(try dsimp only at hSw);go_simp;try with_reducible rfl)
      try simp only[Act.put,List.getElem_toArray,List.getElem_cons_zero,List.getElem_cons_succ,List.setIfInBounds_toArray,List.set_cons_zero,List.set_cons_succ]
      refine wpAnyH_done (by kernel_rfl) ?_ _
      have b7:Below w6.heap.size w6 w116:=hs16
      generalize hw7:w116=w7 at b7⊢
      obtain⟨n07,n17,n27,n37,n47,n57,n67,n77,n87⟩:=c9b b7 z06 n06 n16 n26 n36 n46 n56 n66 n76 n86
      obtain⟨x07,x17,x27,x37,x47,x57⟩:=c6b b7 z16 x06 x16 x26 x36 x46 x56
      obtain⟨t07,t17,t27,t37,t47,t57,t67,t77,t87⟩:=c9b b7 z26 t06 t16 t26 t36 t46 t56 t66 t76 t86
      have tf7:∀i,w7.frozen? ⟨w.heap.size+1+1,i,none⟩=false:=fun i=>(b7.frozen (p:=⟨w.heap.size+1+1,i,none⟩) z26).trans (tf6 i)
      have rd7:=(b7.cell (p:=⟨p.bR,d,none⟩) zR6).trans rd6
      have fd7:=(b7.frozen (p:=⟨p.bR,d,none⟩) zR6).trans fd6
      have z07:w.heap.size<w7.heap.size:=Nat.lt_of_lt_of_le z06 b7.size
      have z17:w.heap.size+1<w7.heap.size:=Nat.lt_of_lt_of_le z16 b7.size
      have z27:w.heap.size+1+1<w7.heap.size:=Nat.lt_of_lt_of_le z26 b7.size
      have zR7:p.bR<w7.heap.size:=Nat.lt_of_lt_of_le zR6 b7.size
      have zH7:w5.heap.size<w7.heap.size:=Nat.lt_of_lt_of_le zH6 b7.size
      have g07:w7.cell? ⟨w5.heap.size,0,none⟩=some (.int .u64 (M.Hp h).base):=(b7.cell (p:=⟨w5.heap.size,0,none⟩) zH6).trans g06
      have g17:w7.cell? ⟨w5.heap.size,1,none⟩=some (.bool true):=(b7.cell (p:=⟨w5.heap.size,1,none⟩) zH6).trans g16
      have g27:w7.cell? ⟨w5.heap.size,2,none⟩=some (.slice (some ⟨p.blk h,0,none⟩) (M.Hp h).len (p.cap h)):=(b7.cell (p:=⟨w5.heap.size,2,none⟩) zH6).trans g26
      have HM7:Hid (Mem w7 base {p with aO:=some ⟨g,0,none⟩,cO:=cp} (M.see 1 A)):=HM6.out.below b7
      have HB7:Hid (Below base w w7):=HB6.out.trans (b7.mono (by have:=HBS.out;omega))
      have HK7:Hid (∀k,k<w.heap.size->Off p M.nH M.nO k->w7.heap[k]?=w.heap[k]?):=fun k hk ho=>(b7.block k (by omega)).trans (HK6.out k hk ho)
      have z76:w6.heap.size<=w7.heap.size:=b7.size
      clear b7 hw7 R0 R1' R2 hHeld hs10 hHeld10 hs16 hHeld16 n06 n16 n26 n36 n46 n56 n66 n76 n86 x06 x16 x26 x36 x46 x56 t06 t16 t26 t36 t46 t56 t66 t76 t86 tf6 rd6 fd6 g06 g16 g26
      have lD:=(H0.out.data h hh).lt (p.blk h) rfl
      have hbD:=lD.2
      have nDR:p.blk h≠p.bR:=by
       have:=apart_some (rows_apart (H0.out.data h hh) H0.out.regs (by decide))
       simpa[Value.ownBlock]using this
      have hA2:(M.Hp h).base<=A:=by omega
      have HMP:Hid (∀q,((M.see 1 A).pokeN h o (M.R d) q).nH=M.nH/\(∀i,(((M.see 1 A).pokeN h o (M.R d) q).Hp i).len=(M.Hp i).len)/\((M.see 1 A).pokeN h o (M.R d) q).R=M.R):=MV.pokeN_len (M.see 1 A) h o (M.R d)
      go_wp2_with fail
      rw[HO.out]
      clear hwr hwr2 hd2 hd3 c2 c3 c1
      go_loopw [11](fun i wr=>∃q:Nat,q<=wi/\i=.int .u64 q/\w7.grownBy wr (some (p.blk h))/\Below base w wr/\Mem wr base {p with aO:=some ⟨g,0,none⟩,cO:=cp} ((M.see 1 A).pokeN h o (M.R d) q))(fun i _=>wi-(intOf i).toNat)
      case atStart=>exact⟨0,Nat.zero_le _,rfl,⟨rfl,rfl,rfl,Nat.le_refl _,fun _ _ _=>rfl⟩,HB7.out,HM7.out⟩
      case round=>
       obtain⟨q,hqw,rfl,hgr,hbr,hmr⟩:=hrel
       have hc:∀k o,k<w7.heap.size->k≠p.blk h->wr.cell? ⟨k,o,none⟩=w7.cell? ⟨k,o,none⟩:=fun k o h1 h2=>World.cell?_of_block (hgr.block k h1 (by simpa using h2))
       have hf:∀k o,k<w7.heap.size->k≠p.blk h->wr.frozen? ⟨k,o,none⟩=w7.frozen? ⟨k,o,none⟩:=fun k o h1 h2=>World.frozen?_of_block (hgr.block k h1 (by simpa using h2))
       have zr:=hgr.size
       have d0:w.heap.size≠p.blk h:=by omega
       have d1:w.heap.size+1≠p.blk h:=by omega
       have d2:w.heap.size+1+1≠p.blk h:=by omega
       have d5:w5.heap.size≠p.blk h:=by omega
       have hmp:=HMP.out q
       by_cases hlt:q<wi
       ·have hDat:=row_arr (hmr.data h (by rw[hmp.1];exact hh))
        have hl3:=hmp.2.1 h
        have zHr:w5.heap.size<wr.heap.size:=by omega
        have z0r:w.heap.size<wr.heap.size:=by omega
        have z1r:w.heap.size+1<wr.heap.size:=by omega
        have zRr:p.bR<wr.heap.size:=by omega
        have zDr:p.blk h<wr.heap.size:=by omega
        have r2:∀w',Below wr.heap.size wr w'->w'.cell? ⟨w5.heap.size,2,none⟩=some (.slice (some ⟨p.blk h,0,none⟩) (M.Hp h).len (p.cap h)):=fun w' hw=>(hw.cell (p:=⟨w5.heap.size,2,none⟩) zHr).trans ((hc _ _ zH7 d5).trans g27)
        have r0:∀w',Below wr.heap.size wr w'->w'.cell? ⟨w.heap.size,0,none⟩=some (.slice (some ⟨p.bR,0,none⟩) 8 p.cR):=fun w' hw=>(hw.cell (p:=⟨w.heap.size,0,none⟩) z0r).trans ((hc _ _ z07 d0).trans n07)
        have r1:∀w',Below wr.heap.size wr w'->w'.cell? ⟨w.heap.size+1,1,none⟩=some (.int .i64 d):=fun w' hw=>(hw.cell (p:=⟨w.heap.size+1,1,none⟩) z1r).trans ((hc _ _ z17 d1).trans x17)
        have rR:∀w',Below wr.heap.size wr w'->w'.cell? ⟨p.bR,d,none⟩=some (.int .u64 (M.R d)):=fun w' hw=>(hw.cell (p:=⟨p.bR,d,none⟩) zRr).trans ((hc _ _ zR7 (Ne.symm nDR)).trans rd7)
        have rD:∀w',Below wr.heap.size wr w'->w'.cell? ⟨p.blk h,o+q,none⟩=some (.int .u8 ((((M.see 1 A).pokeN h o (M.R d) q).Hp h).dat (o+q))):=fun w' hw=>(hw.cell (p:=⟨p.blk h,o+q,none⟩) zDr).trans (hDat.2.2.2.cell (by rw[hl3];omega))
        have rF:∀w',Below wr.heap.size wr w'->w'.frozen? ⟨p.blk h,o+q,none⟩=false:=fun w' hw=>(hw.frozen (p:=⟨p.blk h,o+q,none⟩) zDr).trans (hDat.2.2.2.free (o+q))
        have HPW:Hid (∀w,Calls Tryz.prog 125 #[.int .i64 (8*(q:Int))] w fun e w'=>e=.returned (.int .u64 ((2:Int)^(8*q)))/\w'=w):=fun w=>by
         have:=l1Pow_any (8*q) w (by omega)
         simpa using this
        have HI8:Hid (IntKind.i64.wrap (8*IntKind.i64.wrap (q:Int))=8*(q:Int)):=by
         rw[i64_id (x:=(q:Int)) (by omega) (by omega)]
         exact i64_id (by omega) (by omega)
        have hPP:(0:Int)<2^(8*q):=Int.pow_pos (by decide)
        have hP0:¬((2:Int)^(8*q)=0):=by omega
        have hdv:0<=M.R d/2^(8*q):=Int.ediv_nonneg pd0 (Int.le_of_lt hPP)
        have hdw:M.R d/2^(8*q)<=M.R d:=Int.ediv_le_self _ pd0
        have htd:IntKind.u64.wrap ((M.R d).tdiv (2^(8*q)))=M.R d/2^(8*q):=by
         rw[Int.tdiv_eq_ediv_of_nonneg pd0]
         exact wrap_id hdv (by omega)
        have hol2:(o:Int)+q<(M.Hp h).len:=by omega
        have hwo:IntKind.u64.wrap ((o:Int)+q)=o+q:=wrap_id (by omega) (by omega)
        have ho0:(0:Int)<=(o:Int)+q:=by omega
        have hot:((o:Int)+q).toNat=o+q:=by omega
        have HGR:Hid (w7.grownBy wr (some (p.blk h))):=hgr
        have HBR:Hid (Below base w wr):=hbr
        have HMR:Hid (Mem wr base {p with aO:=some ⟨g,0,none⟩,cO:=cp} ((M.see 1 A).pokeN h o (M.R d) q)):=hmr
        have HLD:Hid (base<=p.blk h):=lD.1
        clear hgr hbr hmr hc hf hDat hl3 hmp lD
        go_wp2_with fail
        refine wp_region_L (T:=fun w'=>Below wr.heap.size wr w') (s:=18) (by kernel_rfl) ((Below.refl _ _).drew) (fun hHeld=>?_)
        refine wpAnyL_tkT 0 ?lv0 rfl ?ly0 ?lr0
        case ly0=>(intro w hSw;(try dsimp only at hSw);go_simp;try with_reducible rfl)
        try simp only[Act.put,List.getElem_toArray,List.getElem_cons_zero,List.setIfInBounds_toArray,List.set_cons_zero,List.set_cons_succ]
        refine wpAnyL_tkT 1 ?lv1 rfl ?ly1 ?lr1
        case ly1=>(intro w hSw;(try dsimp only at hSw);go_simp;try with_reducible rfl)
        try simp only[Act.put,List.getElem_toArray,List.getElem_cons_zero,List.getElem_cons_succ,List.setIfInBounds_toArray,List.set_cons_zero,List.set_cons_succ]
        refine wpAnyL_tkT 2 ?lv2 rfl ?ly2 ?lr2
        case ly2=>(intro w hSw;(try dsimp only at hSw);go_simp;try with_reducible rfl)
        try simp only[Act.put,List.getElem_toArray,List.getElem_cons_zero,List.getElem_cons_succ,List.setIfInBounds_toArray,List.set_cons_zero,List.set_cons_succ]
        refine wpAnyL_tkT 3 ?lv3 rfl ?ly3 ?lr3
        case ly3=>(intro w hSw;(try dsimp only at hSw);go_simp;try with_reducible rfl)
        try simp only[Act.put,List.getElem_toArray,List.getElem_cons_zero,List.getElem_cons_succ,List.setIfInBounds_toArray,List.set_cons_zero,List.set_cons_succ]
        refine wpAnyL_tkT 4 ?lv4 rfl ?ly4 ?lr4
        case ly4=>(intro w hSw;(try dsimp only at hSw);go_simp;try with_reducible rfl)
        try simp only[Act.put,List.getElem_toArray,List.getElem_cons_zero,List.getElem_cons_succ,List.setIfInBounds_toArray,List.set_cons_zero,List.set_cons_succ]
        refine wpAnyL_tkT 5 ?lv5 rfl ?ly5 ?lr5
        case ly5=>(intro w hSw;(try dsimp only at hSw);go_simp;try with_reducible rfl)
        try simp only[Act.put,List.getElem_toArray,List.getElem_cons_zero,List.getElem_cons_succ,List.setIfInBounds_toArray,List.set_cons_zero,List.set_cons_succ]
        refine wpAnyL_tkT 6 ?lv6 rfl ?ly6 ?lr6
        case ly6=>(intro w hSw;(try dsimp only at hSw);go_simp;try with_reducible rfl)
        try simp only[Act.put,List.getElem_toArray,List.getElem_cons_zero,List.getElem_cons_succ,List.setIfInBounds_toArray,List.set_cons_zero,List.set_cons_succ]
        refine wpAnyL_tkT 7 ?lv7 rfl ?ly7 ?lr7
        case ly7=>(intro w hSw;(try dsimp only at hSw);go_simp;try with_reducible rfl)
        try simp only[Act.put,List.getElem_toArray,List.getElem_cons_zero,List.getElem_cons_succ,List.setIfInBounds_toArray,List.set_cons_zero,List.set_cons_succ]
        refine wpAnyL_tkT 8 ?lv8 rfl ?ly8 ?lr8
        case ly8=>(intro w hSw;(try dsimp only at hSw);go_simp;try with_reducible rfl)
        try simp only[Act.put,List.getElem_toArray,List.getElem_cons_zero,List.getElem_cons_succ,List.setIfInBounds_toArray,List.set_cons_zero,List.set_cons_succ]
        refine wpAnyL_tkT 9 ?lv9 rfl ?ly9 ?lr9
        case ly9=>(intro w hSw;(try dsimp only at hSw);go_simp;try with_reducible rfl)
        try simp only[Act.put,List.getElem_toArray,List.getElem_cons_zero,List.getElem_cons_succ,List.setIfInBounds_toArray,List.set_cons_zero,List.set_cons_succ]
        refine wpAnyL_tkT 10 ?lv10 rfl ?ly10 ?lr10
        case ly10=>(intro w hSw;(try dsimp only at hSw);go_simp;try with_reducible rfl)
        try simp only[Act.put,List.getElem_toArray,List.getElem_cons_zero,List.getElem_cons_succ,List.setIfInBounds_toArray,List.set_cons_zero,List.set_cons_succ]
        refine wpAnyL_tkT 11 ?lv11 rfl ?ly11 ?lr11
        case ly11=>(intro w hSw;(try dsimp only at hSw);go_simp;try with_reducible rfl)
        try simp only[Act.put,List.getElem_toArray,List.getElem_cons_zero,List.getElem_cons_succ,List.setIfInBounds_toArray,List.set_cons_zero,List.set_cons_succ]
        refine wpAnyL_tkT 12 ?lv12 rfl ?ly12 ?lr12
        case ly12=>(intro w hSw;(try dsimp only at hSw);go_simp;try with_reducible rfl)
        try simp only[Act.put,List.getElem_toArray,List.getElem_cons_zero,List.getElem_cons_succ,List.setIfInBounds_toArray,List.set_cons_zero,List.set_cons_succ]
        refine wpAnyL_tkT 13 ?lv13 rfl ?ly13 ?lr13
        case ly13=>(intro w hSw;(try dsimp only at hSw);go_simp;try with_reducible rfl)
        try simp only[Act.put,List.getElem_toArray,List.getElem_cons_zero,List.getElem_cons_succ,List.setIfInBounds_toArray,List.set_cons_zero,List.set_cons_succ]
        refine wpAnyL_call (i:=14) rfl (by kernel_rfl) (fun K hK=>?_)
        go_simp
        rw[HI8.out]
        refine(HPW.out _).mono ?_
        rintro e wq⟨rfl,rfl⟩
        go_wp2_with fail
        refine hK.out _ _ (by assumption) (fun hHeld14=>?_)
        clear hK K
        refine wpAnyL_tkT 15 ?lv15 rfl ?ly15 ?lr15
        case ly15=>(intro w hSw;(try dsimp only at hSw);go_simp;try with_reducible rfl)
        try simp only[Act.put,List.getElem_toArray,List.getElem_cons_zero,List.getElem_cons_succ,List.setIfInBounds_toArray,List.set_cons_zero,List.set_cons_succ]
        refine wpAnyL_tkT 16 ?lv16 rfl ?ly16 ?lr16
        case ly16=>(intro w hSw;(try dsimp only at hSw);go_simp;try with_reducible rfl)
        try simp only[Act.put,List.getElem_toArray,List.getElem_cons_zero,List.getElem_cons_succ,List.setIfInBounds_toArray,List.set_cons_zero,List.set_cons_succ]
        refine wpAnyL_tkT 17 ?lv17 rfl ?ly17 ?lr17
        case ly17=>(intro w hSw;(try dsimp only at hSw);go_simp;try with_reducible rfl)
        try simp only[Act.put,List.getElem_toArray,List.getElem_cons_zero,List.getElem_cons_succ,List.setIfInBounds_toArray,List.set_cons_zero,List.set_cons_succ]
        refine wpAnyL_store rfl (by kernel_rfl) (by kernel_rfl) (fun K hK=>?_)
        go_simp
        refine hK.out _ _ ?_
        clear hK K
        go_wp2
        go_roundw
        case rel=>
         refine⟨q+1,by omega,by go_num,⟨HGR.out.os,HGR.out.tape,HGR.out.output,by simpa using HGR.out.size,fun k hk hne=>(heap_setCell_other _ _ _ _ (fun e=>hne (by rw[e]))).trans (HGR.out.block k hk hne)⟩,(HBR.out.setCell (by simpa using HLD.out) _).drew,?_⟩
         exact(HMR.out.poke (by rw[(HMP.out q).1];exact hh) (o+q) _).below (Below.refl _ _).drew
        case measure=>simp[intOf];omega
       ·obtain rfl:wi=q:=by omega
        obtain⟨n0r,n1r,n2r,n3r,n4r,n5r,n6r,n7r,n8r⟩:=c9f (fun o=>hc _ o z07 d0) n07 n17 n27 n37 n47 n57 n67 n77 n87
        obtain⟨x0r,x1r,x2r,x3r,x4r,x5r⟩:=c6f (fun o=>hc _ o z17 d1) x07 x17 x27 x37 x47 x57
        obtain⟨t0r,t1r,t2r,t3r,t4r,t5r,t6r,t7r,t8r⟩:=c9f (fun o=>hc _ o z27 d2) t07 t17 t27 t37 t47 t57 t67 t77 t87
        have tfr:∀i,wr.frozen? ⟨w.heap.size+1+1,i,none⟩=false:=fun i=>(hf _ _ z27 d2).trans (tf7 i)
        have z0r:w.heap.size<wr.heap.size:=by omega
        have z1r:w.heap.size+1<wr.heap.size:=by omega
        have z2r:w.heap.size+1+1<wr.heap.size:=by omega
        have OFFZ:Off {p with aO:=some ⟨g,0,none⟩,cO:=cp} ((M.see 1 A).pokeN h o (M.R d) wi).nH ((M.see 1 A).pokeN h o (M.R d) wi).nO (w.heap.size+1+1):=off_pokeN (M:=M.see 1 A) HOZ.out
        have HMR:Hid (Mem wr base {p with aO:=some ⟨g,0,none⟩,cO:=cp} ((M.see 1 A).pokeN h o (M.R d) wi)):=hmr
        have HBR:Hid (Below base w wr):=hbr
        have HKR:Hid (∀k,k<w.heap.size->Off p M.nH M.nO k->wr.heap[k]?=w.heap[k]?):=fun k hk ho=>(hgr.block k (by omega) (fun e=>ho.d h hh (Option.some.inj e).symm)).trans (HK7.out k hk ho)
        clear hgr hbr hmr hc hf hmp lD n07 n17 n27 n37 n47 n57 n67 n77 n87 x07 x17 x27 x37 x47 x57 t07 t17 t27 t37 t47 t57 t67 t77 t87 tf7 rd7 fd7 g07 g17 g27
        go_wp2
        refine bodyPost_ret (v:=.agg #[.slice (some ⟨p.bR,0,none⟩) 8 p.cR,.bool M.z,.bool M.c,.bool M.hz,.bool M.hc,.slice (some ⟨gH,0,none⟩) M.nH p.cH,.int .i64 M.pc,.int .i64 M.st,.slice (some ⟨g,0,none⟩) (M.nO+1) cp]) (by simp[results,Tryz.results127,go_sem,t0r,t1r,t2r,t3r,t4r,t5r,t6r,t7r,t8r]) rfl ?_
        rw[<-HAH.out]
        have hE4:RES=(M.see 1 A).pokeN h o (M.R d) wi:=by
         rw[HE3.out]
         unfold memOp
         rw[if_neg hH]
         have hq:(lies (M.Hp h).base A (wi:Nat) (M.Hp h).len&&(!true||(M.Hp h).wr))=true:=by
          have h1:=HO.out
          unfold lies
          simp[hw,show(M.Hp h).base<=A by omega,show(wi:Int)<=((M.Hp h).len:Int)by omega,show A-(M.Hp h).base<=((M.Hp h).len:Int)-wi by omega]
         rw[hq,HO.out]
         rfl
        rw[hE4]
        refine⟨⟨{p with aO:=some ⟨g,0,none⟩,cO:=cp},congrArg Ending.returned (mVal_pokeN {p with aO:=some ⟨g,0,none⟩,cO:=cp} (M.see 1 A) h o (M.R d) wi).symm,?_,?_⟩,fun k hk ho=>?_⟩
        ·iterate 9 refine Below.setCell ?_ (by simp;have:=H0.out.ltR;omega) _
         exact HBR.out
        ·iterate 9 refine Mem.setOff (M:=(M.see 1 A).pokeN h o (M.R d) wi) ?_ OFFZ _ _
         exact HMR.out
        ·iterate 9 rw[heap_setCell_other _ _ _ _ (show k≠w.heap.size+1+1 by omega)]
         exact HKR.out k hk ho
end Go.Proofs.YtpbceodheeepoaaGreat
