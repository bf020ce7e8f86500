import Derived.Test.YtdbhgaegblclaaaDoorRdWf
set_option maxHeartbeats 6400000
set_option maxRecDepth 20000
namespace Go.Proofs.YtdbhgaegblclaaaDoor
open Go.RowKit
theorem rows_wf(d:Int):∀(ls:List (List UInt8))(b:Bool)(rows:List Row),(∀r∈rows,(Lit.int .i64 r.2.imm).wf=true)->∀r∈(rdLs d ls b rows).2,(Lit.int .i64 r.2.imm).wf=true
 |[],b,rows,h=>by
  unfold rdLs;cases b<;>exact h
 |l::ls,b,rows,h=>by
  unfold rdLs;have snoc:∀r0:Row,rdLine d l=some r0->∀r∈rows++[r0],(Lit.int .i64 r.2.imm).wf=true:=fun r0 h0 r hr=>by
   rcases List.mem_append.1 hr with h1|h1
   ·exact h r h1
   ·have:r=r0:=by simpa using h1
    rw[this];exact(line_wf h0).1
  rcases hl:rdLine d l with _|⟨_|_,x⟩
  ·exact h
  ·exact rows_wf d ls b _ (snoc _ hl)
  ·simp only
   split
   ·exact h
   ·exact rows_wf d ls b _ (snoc _ hl)
theorem implFlat_nil(w:World):Calls Tryd.prog 10 #[.slice none 0 0] w fun e w'=>e=.returned (.bool false)/\Below w.heap.size w w':=by
 go_enter Tryd.func10,Tryd.ntmps10;go_wp2_with fail;go_ret;exact⟨rfl,Below.refl _ _⟩
theorem implFlat_row{w:World}{B:Nat}{v:Value}{xs:List NV}(h:w.ownsRow B 56 6 v xs.length (ci xs))(hl:xs.length<=1048576):Calls Tryd.prog 10 #[v] w fun e w'=>e=.returned (.bool (flatOK xs.length (prF xs)))/\Below w.heap.size w w':=by
 have h':=h;rcases h.2 with⟨rfl,h0⟩|⟨g,cap,cur,rfl,_⟩
 ·have e:flatOK xs.length (prF xs)=false:=by rw[h0];unfold flatOK;simp
  rw[e];exact implFlat_nil w
 ·exact implFlat_any g 0 xs.length cap (prF xs) w hl (ci_row h')
theorem implRead_ok(hRL:RLSpec)(b off cap:Nat)(t:List UInt8)(d:Int)(w:World)(ht:(t.length:Int)<=100000)(hd:d=0∨d=1)(hcap:t.length<=cap)(hat:At w b off t.length (numF .u8 (bF t)))
 (ht2:Lib.TabIs Tryd.prog w "strings.asciiSpace" .u8 Lib.asciiSpaceTab):
 Calls Tryd.prog 12 #[.slice (some ⟨b,off,none⟩) t.length cap,.int .i64 d] w fun e w'=>ReadR (rdA d t) w.heap.size e w'/\Below w.heap.size w w':=by
 have hb:=hat.lt
 have HRL:Hid RLSpec:=hRL
 have HA:Hid (At w b off t.length (numF .u8 (bF t))):=hat
 have HD:Hid (d=0∨d=1):=hd
 have T2:Hid (Lib.TabBelow Tryd.prog w.heap.size w "strings.asciiSpace" .u8 Lib.asciiSpaceTab):=Lib.tabBelow_of_tabIs ht2
 have hin:inB d 0 1=true:=by unfold inB;rcases hd with rfl|rfl<;>rfl
 have hl1:¬(100000:Int)<t.length:=by omega
 have hmk:∀w:World,(Instr.makeMap 64 none).run Tryd.prog w=.ok (.map (some w.heap.size)) (w.alloc (.map #[] 0)):=fun w=>run_makeMap _ w
 clear hat hd ht2 hRL
 go_enter Tryd.func12,Tryd.ntmps12
 go_upto_region 4 with(first|(go_at_call 30;refine(isDialect_any _ _).mono ?_;rintro e w2⟨rfl,hw2⟩;rw[hw2,hin];clear hw2))
 obtain⟨p,hp⟩:∃p,w.heap.size=p:=⟨_,rfl⟩
 obtain⟨w2,hw2,b2,P2,M2,R2,z2⟩:∃v,((w.alloc (.cells #[.int .i64 0,.int .i64 0,.slice none 0 0] 29)).alloc (.map #[] 0)).alloc (.cells #[.slice none 0 0,.map (some (p+1)),.int .i64 0] 67)=v/\Below w.heap.size w v/\v.heap[p]?=some (.cells #[.int .i64 0,.int .i64 0,.slice none 0 0] 29)/\v.ownsMap Tryd.prog 2 (plainElem (H:=Unit) Tryd.prog 2) (p+1) 0 (.map [])/\v.heap[p+2]?=some (.cells #[.slice none 0 0,.map (some (p+1)),.int .i64 0] 67)/\v.heap.size=p+3:=by
  have e1:(w.alloc (.cells #[.int .i64 0,.int .i64 0,.slice none 0 0] 29)).heap.size=p+1:=by simp[hp]
  have e2:((w.alloc (.cells #[.int .i64 0,.int .i64 0,.slice none 0 0] 29)).alloc (.map #[] 0)).heap.size=p+2:=by simp[hp]
  have h1:Below w.heap.size w (w.alloc (.cells #[.int .i64 0,.int .i64 0,.slice none 0 0] 29)):=(Below.refl _ _).alloc (Nat.le_refl _) _
  have h2:Below (p+1) (w.alloc (.cells #[.int .i64 0,.int .i64 0,.slice none 0 0] 29)) ((w.alloc (.cells #[.int .i64 0,.int .i64 0,.slice none 0 0] 29)).alloc (.map #[] 0)):=(Below.refl _ _).alloc (by omega) _
  have h3:Below (p+2) ((w.alloc (.cells #[.int .i64 0,.int .i64 0,.slice none 0 0] 29)).alloc (.map #[] 0)) (((w.alloc (.cells #[.int .i64 0,.int .i64 0,.slice none 0 0] 29)).alloc (.map #[] 0)).alloc (.cells #[.slice none 0 0,.map (some (p+1)),.int .i64 0] 67)):=(Below.refl _ _).alloc (by omega) _
  refine⟨_,rfl,h1.trans ((h2.mono (by omega)).trans (h3.mono (by omega))),?_,?_,?_,by simp[hp]⟩
  ·rw[h3.block p (by omega),h2.block p (by omega),<-hp];exact heap_alloc_newB w _
  ·obtain⟨es,c,m1,m2⟩:=World.ownsMap_made (w.alloc (.cells #[.int .i64 0,.int .i64 0,.slice none 0 0] 29)) Tryd.prog 2 (plainElem (H:=Unit) Tryd.prog 2)
   rw[e1]at m1
   exact⟨es,c,(h3.block (p+1) (by omega)).trans m1,m2⟩
  ·rw[<-e2];exact heap_alloc_newB _ _
 have hwr:((w.alloc (.cells #[.int .i64 0,.int .i64 0,.slice none 0 0] 29)).alloc (.map #[] 0)).alloc (.cells #[.slice none 0 0,.map (some (w.heap.size+1)),.int .i64 0] 67)=w2:=by rw[hp];exact hw2
 have B2:Hid (Below w.heap.size w w2):=b2
 try rw[hwr]
 try rw[hp]
 clear hw2 hwr hmk
 rw[show p+1+1=p+2 from rfl]
 have HP:Hid (w.heap.size=p):=hp
 have hwp:w.heap.size<=p:=Nat.le_of_eq hp
 have P2h:Hid (w2.heap[p]?=some (.cells #[.int .i64 0,.int .i64 0,.slice none 0 0] 29)):=P2
 have M2h:Hid (w2.ownsMap Tryd.prog 2 (plainElem (H:=Unit) Tryd.prog 2) (p+1) 0 (.map [])):=M2
 have R2h:Hid (w2.heap[p+2]?=some (.cells #[.slice none 0 0,.map (some (p+1)),.int .i64 0] 67)):=R2
 have hb':b<p:=by omega
 have HZ2:Hid (w2.heap.size=p+3):=z2
 clear b2 P2 M2 R2 z2 hp
 go_wp2_with fail
 refine(newScribe_any d w2 (T2.out _ B2.out)).mono ?_
 rintro e w3⟨sb,nb,ob,mf,rfl,sc3,hb3,l1,l2,l3,l4,hops,z1,z2,z3,z4⟩
 have hz:=HZ2.out
 have B3:Hid (Below w.heap.size w w3):=B2.out.trans (hb3.mono B2.out.size)
 have P3:Hid (w3.heap[p]?=some (.cells #[.int .i64 0,.int .i64 0,.slice none 0 0] 29)):=(hb3.block p (by omega)).trans P2h.out
 have Q3:Hid (QX w3 (p+1) (p+2) (p+1) 0 (.slice none 0 0) [] sb nb ob mf d b off t w3):=(by
  refine⟨⟨(hb3.block (p+2) (by omega)).trans R2h.out,World.ownsRow_nil _ _ _ _,?_,by omega,Nat.le_refl _⟩,sc3,hops,HA.out.below B3.out hb,Below.refl _ _,fun k hk=>by cases hk⟩
  obtain⟨es,c,m1,m2⟩:=M2h.out
  exact⟨_,⟨es,c,(hb3.block (p+1) (by omega)).trans m1,m2⟩,LabD.nil⟩:QX w3 (p+1) (p+2) (p+1) 0 (.slice none 0 0) [] sb nb ob mf d b off t w3)
 have F3:Hid (Far w3 (p+2) (p+1) sb/\Far w3 (p+2) (p+1) nb/\Far w3 (p+2) (p+1) ob/\Far w3 (p+2) (p+1) mf/\Far w3 (p+2) (p+1) b):=(by
  unfold Far
  omega:Far w3 (p+2) (p+1) sb/\Far w3 (p+2) (p+1) nb/\Far w3 (p+2) (p+1) ob/\Far w3 (p+2) (p+1) mf/\Far w3 (p+2) (p+1) b)
 have hB3:p+1<=w3.heap.size:=by omega
 clear sc3 hb3 hops P2h M2h R2h l1 l2 l3 l4 z1 z2 z3 z4 hz HZ2 B2
 go_wp2_with fail
 refine(readLines_any HRL.out (p+1) (p+2) (p+1) sb nb ob mf d b off cap t w3 HD.out ht hcap hB3 Q3.out F3.out (fun l r h=>(line_wf h).1) (fun l x h=>(line_wf h).2 rfl)).mono ?_
 rintro e w4⟨n,lv,rfl,hW4,hb4,hlen⟩
 obtain⟨er,rows,hrt⟩:∃er rows,rdT d t []=(er,rows):=⟨_,_,rfl⟩
 rw[hrt]at hW4 hlen⊢
 simp only at hW4 hlen⊢
 obtain⟨lao,lcap,hlv⟩:=row_sl hW4.L
 subst hlv
 have HRT:Hid (rdT d t []=(er,rows)):=hrt
 have W4:Hid (RW w4 (p+1) (p+2) (p+1) n (.slice lao rows.length lcap) rows):=hW4
 have B4:Hid (Below w.heap.size w w4):=B3.out.trans (hb4.mono (by omega))
 have P4:Hid (w4.heap[p]?=some (.cells #[.int .i64 0,.int .i64 0,.slice none 0 0] 29)):=(hb4.block p (by omega)).trans P3.out
 have HWF:Hid (∀r∈rows,(Lit.int .i64 r.2.imm).wf=true):=(by
  have h1:=rdT_split d t [] [] (by simp)
  rw[List.nil_append,HRT.out]at h1
  have h2:=rows_wf d (splitL t []).1 (!(splitL t []).2.isEmpty) [] (by simp)
  rw[<-h1]at h2
  exact h2:∀r∈rows,(Lit.int .i64 r.2.imm).wf=true)
 clear hrt hW4 hb4 Q3 F3 P3 B3
 by_cases he0:er=0
 rotate_left
 ·have e1:(er !=0)=true:=by rw[bne_iff_ne];exact he0
  have HR:Hid (rdA d t=(er,(rows.length:Int)+1,[])):=rdA_lines ht hin HRT.out he0
  have q0:w4.cell? ⟨p+2,0,none⟩=some (.slice lao rows.length lcap):=hp_cell W4.out.R 0
  have hw1:IntKind.i64.wrap ((rows.length:Int)+1)=(rows.length:Int)+1:=i64_idR (by omega) (by omega)
  clear he0
  have hpz:p<w4.heap.size:=(Array.getElem?_eq_some_iff.1 P4.out).1
  have p0:=hp_cell P4.out 0
  have p1:=hp_cell P4.out 1
  have p2:=hp_cell P4.out 2
  have pf:=hp_free P4.out
  simp only[List.getElem?_toArray,List.getElem?_cons_zero,List.getElem?_cons_succ]at p0 p1 p2
  have BF:Hid (∀v0 v1 v2,Below w.heap.size w (((w4.setCell ⟨p,0,none⟩ v0).setCell ⟨p,1,none⟩ v1).setCell ⟨p,2,none⟩ v2)):=fun v0 v1 v2=>((B4.out.setCell hwp _).setCell hwp _).setCell hwp _
  go_wp2_with fail
  exact bodyPost_ret (v:=.agg #[.int .i64 er,.int .i64 ((rows.length:Int)+1),.slice none 0 0]) (by simp[results,Tryd.results12,go_sem, *]) rfl ⟨rd_bad HR.out,BF.out _ _ _⟩
 have e1:(er !=0)=false:=by rw[he0];rfl
 have HR0:Hid (rdT d t []=(0,rows)):=(by rw[HRT.out,he0]:rdT d t []=(0,rows))
 clear he0 HRT
 go_upto_region 7 with fail
 go_wp2_with fail
 refine(lostLabel_any (p+1) (p+2) (p+1) _ rows w4 W4.out.rd (by omega) HWF.out).mono ?_
 rintro e w5⟨rfl,hb5⟩
 have W5:Hid (RW w5 (p+1) (p+2) (p+1) n (.slice lao rows.length lcap) rows):=W4.out.below hb5
 have B5:Hid (Below w.heap.size w w5):=B4.out.trans (hb5.mono B4.out.size)
 have P5:Hid (w5.heap[p]?=some (.cells #[.int .i64 0,.int .i64 0,.slice none 0 0] 29)):=(hb5.block p (Array.getElem?_eq_some_iff.1 P4.out).1).trans P4.out
 obtain⟨ls,hls⟩:∃x,lostI rows=x:=⟨_,rfl⟩
 have HLS:Hid (lostI rows=ls):=hls
 rw[hls]
 clear hls hb5 W4 P4
 by_cases hl0:ls=0
 rotate_left
 ·have e2:(ls !=0)=true:=by rw[bne_iff_ne];exact hl0
  have HR:Hid (rdA d t=(4,ls,[])):=rdA_lost ht hin HR0.out HLS.out hl0
  clear hl0
  have hpz:p<w5.heap.size:=(Array.getElem?_eq_some_iff.1 P5.out).1
  have p0:=hp_cell P5.out 0
  have p1:=hp_cell P5.out 1
  have p2:=hp_cell P5.out 2
  have pf:=hp_free P5.out
  simp only[List.getElem?_toArray,List.getElem?_cons_zero,List.getElem?_cons_succ]at p0 p1 p2
  have BF:Hid (∀v0 v1 v2,Below w.heap.size w (((w5.setCell ⟨p,0,none⟩ v0).setCell ⟨p,1,none⟩ v1).setCell ⟨p,2,none⟩ v2)):=fun v0 v1 v2=>((B5.out.setCell hwp _).setCell hwp _).setCell hwp _
  go_wp2_with fail
  exact bodyPost_ret (v:=.agg #[.int .i64 4,.int .i64 ls,.slice none 0 0]) (by simp[results,Tryd.results12,go_sem, *]) rfl ⟨rd_bad HR.out,BF.out _ _ _⟩
 have e2:(ls !=0)=false:=by rw[hl0];rfl
 have HL0:Hid (lostI rows=0):=(by rw[HLS.out,hl0]:lostI rows=0)
 clear hl0 HLS
 go_upto_region 10 with fail
 go_wp2_with fail
 refine(program_any (p+1) (p+2) (p+1) _ rows w5 W5.out.rd (by omega) HWF.out).mono ?_
 rintro e w6⟨v,rfl,ho6,hb6⟩
 obtain⟨prg,hprg⟩:∃x,prgI rows rows=x:=⟨_,rfl⟩
 have hpl:prg.length<=rows.length:=by rw[<-hprg];exact prg_len rows rows
 rw[hprg]at ho6
 have HPR:Hid (prgI rows rows=prg):=hprg
 have O6:Hid (w6.ownsRow w.heap.size 56 6 v prg.length (ci prg)):=(by
  refine⟨ho6.1,?_⟩
  rcases ho6.2 with h|⟨g,cp,cur,h,a1,a2⟩
  ·exact .inl h
  ·exact .inr ⟨g,cp,cur,h,Nat.le_trans B5.out.size a1,a2⟩:w6.ownsRow w.heap.size 56 6 v prg.length (ci prg))
 have B6:Hid (Below w.heap.size w w6):=B5.out.trans (hb6.mono B5.out.size)
 have P6:Hid (w6.heap[p]?=some (.cells #[.int .i64 0,.int .i64 0,.slice none 0 0] 29)):=(hb6.block p (Array.getElem?_eq_some_iff.1 P5.out).1).trans P5.out
 clear hprg ho6 hb6 W5 P5
 go_upto_region 11 with fail
 go_wp2_with fail
 refine(implFlat_row O6.out (by omega)).mono ?_
 rintro e w7⟨rfl,hb7⟩
 obtain⟨fo,hfo⟩:∃b,flatOK prg.length (prF prg)=b:=⟨_,rfl⟩
 have HRA:Hid (rdA d t=if fo=true then(0,0,prg)else(5,0,[])):=(by
  have:=rdA_flat ht hin HR0.out HL0.out (b:=fo) (by rw[HPR.out];exact hfo)
  rw[HPR.out]at this
  exact this:rdA d t=if fo=true then(0,0,prg)else(5,0,[]))
 rw[hfo]
 have O7:Hid (w7.ownsRow w.heap.size 56 6 v prg.length (ci prg)):=row_belowB O6.out hb7
 have B7:Hid (Below w.heap.size w w7):=B6.out.trans (hb7.mono B6.out.size)
 have P7:Hid (w7.heap[p]?=some (.cells #[.int .i64 0,.int .i64 0,.slice none 0 0] 29)):=(hb7.block p (Array.getElem?_eq_some_iff.1 P6.out).1).trans P6.out
 clear hfo hb7 O6 P6
 have hpz:p<w7.heap.size:=(Array.getElem?_eq_some_iff.1 P7.out).1
 have p0:=hp_cell P7.out 0
 have p1:=hp_cell P7.out 1
 have p2:=hp_cell P7.out 2
 have pf:=hp_free P7.out
 simp only[List.getElem?_toArray,List.getElem?_cons_zero,List.getElem?_cons_succ]at p0 p1 p2
 have BF:Hid (∀v0 v1 v2,Below w.heap.size w (((w7.setCell ⟨p,0,none⟩ v0).setCell ⟨p,1,none⟩ v1).setCell ⟨p,2,none⟩ v2)):=fun v0 v1 v2=>((B7.out.setCell hwp _).setCell hwp _).setCell hwp _
 cases fo with
 |false=>
  have HR:Hid (rdA d t=(5,0,[])):=(by rw[HRA.out];rfl:rdA d t=(5,0,[]))
  go_wp2_with fail
  exact bodyPost_ret (v:=.agg #[.int .i64 5,.int .i64 0,.slice none 0 0]) (by simp[results,Tryd.results12,go_sem, *]) rfl ⟨rd_bad HR.out,BF.out _ _ _⟩
 |true=>
  have HR:Hid (rdA d t=(0,0,prg)):=(by rw[HRA.out];rfl:rdA d t=(0,0,prg))
  have O9:Hid (∀v0 v1 v2,(((w7.setCell ⟨p,0,none⟩ v0).setCell ⟨p,1,none⟩ v1).setCell ⟨p,2,none⟩ v2).ownsRow w.heap.size 56 6 v prg.length (ci prg)):=fun v0 v1 v2=>by
   refine⟨O7.out.1,?_⟩
   rcases O7.out.2 with h|⟨g2,c2,cur2,h,h1,h2,h3⟩
   ·exact .inl h
   ·have hne:g2≠p:=by
     intro e
     have h4:=P7.out
     rw[<-e,h2]at h4
     simp only[Option.some.injEq,Obj.cells.injEq]at h4
     exact absurd h4.2.1 (by decide)
    exact .inr ⟨g2,c2,cur2,h,h1,hp_other (hp_other (hp_other h2 hne _ _) hne _ _) hne _ _,h3⟩
  obtain⟨vao,vcap,hv⟩:=row_sl O7.out
  subst hv
  go_wp2_with fail
  refine bodyPost_ret (v:=.agg #[.int .i64 0,.int .i64 0,.slice vao prg.length vcap]) (by simp[results,Tryd.results12,go_sem, *]) rfl ⟨?_,BF.out _ _ _⟩
  rw[HR.out]
  exact⟨_,rfl,O9.out _ _ _⟩
theorem implRead_long(b off cap:Nat)(t:List UInt8)(d:Int)(w:World)(h:100000<t.length∨inB d 0 1=false)(ht:(t.length:Int)<=1048576):
 Calls Tryd.prog 12 #[.slice (some ⟨b,off,none⟩) t.length cap,.int .i64 d] w fun e w'=>ReadR (rdA d t) w.heap.size e w'/\Below w.heap.size w w':=by
 have HR:Hid (rdA d t=(1,0,[])):=(by unfold rdA;rw[if_pos h]:rdA d t=(1,0,[]))
 by_cases hl:100000<t.length
 ·have hl1:(100000:Int)<t.length:=by omega
  clear h;go_enter Tryd.func12,Tryd.ntmps12;go_wp2_with fail;exact bodyPost_ret (v:=.agg #[.int .i64 1,.int .i64 0,.slice none 0 0]) (by simp[results,Tryd.results12,go_sem]) rfl ⟨rd_bad HR.out,(Below.refl _ _).alloc (Nat.le_refl _) _⟩
 ·have hl1:¬(100000:Int)<t.length:=by omega
  have hin:inB d 0 1=false:=by
   rcases h with h|h
   ·exact absurd h hl
   ·exact h
  clear h;go_enter Tryd.func12,Tryd.ntmps12;go_wp2_with(first|(go_at_call 30;refine(isDialect_any _ _).mono ?_;rintro e w2⟨rfl,hw2⟩;rw[hw2,hin];clear hw2));exact bodyPost_ret (v:=.agg #[.int .i64 1,.int .i64 0,.slice none 0 0]) (by simp[results,Tryd.results12,go_sem]) rfl ⟨rd_bad HR.out,(Below.refl _ _).alloc (Nat.le_refl _) _⟩
theorem implRead_any(hRL:RLSpec)(b off cap:Nat)(t:List UInt8)(d:Int)(w:World)(ht:(t.length:Int)<=1048576)(hcap:t.length<=cap)(hat:At w b off t.length (numF .u8 (bF t)))(ht2:Lib.TabIs Tryd.prog w "strings.asciiSpace" .u8 Lib.asciiSpaceTab):
 Calls Tryd.prog 12 #[.slice (some ⟨b,off,none⟩) t.length cap,.int .i64 d] w fun e w'=>ReadR (rdA d t) w.heap.size e w'/\Below w.heap.size w w':=by
 by_cases h:100000<t.length∨inB d 0 1=false
 ·exact implRead_long b off cap t d w h ht
 ·refine implRead_ok hRL b off cap t d w (by omega) ?_ hcap hat ht2
  have h2:inB d 0 1=true:=by
   cases hi:inB d 0 1 with
   |true=>rfl
   |false=>exact absurd (.inr hi) h
  unfold inB at h2;simp only[Bool.and_eq_true,decide_eq_true_eq]at h2;omega
end Go.Proofs.YtdbhgaegblclaaaDoor
