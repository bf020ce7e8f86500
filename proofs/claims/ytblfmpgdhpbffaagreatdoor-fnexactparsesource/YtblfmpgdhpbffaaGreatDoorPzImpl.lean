import Derived.Test.YtblfmpgdhpbffaaGreatDoorPzTake
import Derived.Test.YtblfmpgdhpbffaaGreatDoorPzNew
import Derived.Test.YtblfmpgdhpbffaaGreatDoorPzSpec
import Derived.Test.YtblfmpgdhpbffaaGreatDoorOfRdRL
import Derived.Lib.SmallJoins
set_option maxHeartbeats 6400000
set_option maxRecDepth 20000
namespace Go.Proofs.YtblfmpgdhpbffaaGreatDoor
open Go.RowKit Go.Proofs
theorem gMC:Tryz.prog.globalNamed "internal/bytealg.MaxLen" =some (Tryz.laysCu_ren.g 0):=by kernel_rfl
theorem bytes_of(t:List UInt8):Lib.bytesOf (t.map fun c=>(c.toNat:Int))=t:=by
 unfold Lib.bytesOf;rw[List.map_map];exact List.map_id'' (fun c=>by simp) t
def CutR(b o cap:Nat)(t:List UInt8)(e:Ending):Prop:=
 if pre noNl t=t.length then e=.returned (.tuple #[.slice (some ⟨b,o,none⟩) t.length cap,.slice none 0 0,.bool false])
 else∃o':Nat,e=.returned (.tuple #[.slice (some ⟨b,o,none⟩) (pre noNl t) cap,.slice (some ⟨b,o',none⟩) (t.drop (pre noNl t+1)).length (cap-(pre noNl t+1)),.bool true])/\(o'=o+(pre noNl t+1)∨(t.drop (pre noNl t+1)).length=0)
theorem cut_any(b o cap:Nat)(t:List UInt8)(g c2:Nat)(w:World){B:Nat}(hE:Env w B)(ht:(t.length:Int)<=1048576)(hcap:t.length<=cap)(hat:At w b o t.length (numF .u8 (bF t)))(hg:w.cell? ⟨g,0,none⟩=some (.int .u8 10)):
 Calls Tryz.prog 16 #[.slice (some ⟨b,o,none⟩) t.length cap,.slice (some ⟨g,0,none⟩) 1 c2] w fun e w'=>CutR b o cap t e/\Below w.heap.size w w':=by
 obtain⟨m,hm⟩:=hE.ml;have hc:w.cell? ⟨Tryz.laysCu_ren.g 0,0,none⟩=some (.int .i64 m):=by simpa using World.var?_cell gMC hm 0
 refine(Any.bytes_Cut_all Tryz.laysCu (some ⟨b,o,none⟩) (some ⟨g,0,none⟩) t.length cap 1 c2 (t.map fun c=>(c.toNat:Int)) [10] m w (by simp) rfl (fun x hx=>by
  obtain⟨c,_,rfl⟩:=List.mem_map.1 hx;have:=c.toNat_lt;omega) (by decide) (fun _=>⟨b,o,rfl,fun i hi=>by rw[hat.2 i hi];unfold numF bF;simp[List.getD_eq_getElem?_getD,hi]⟩) (fun _=>⟨g,0,rfl,fun i hi=>by
   obtain rfl:i=0:=by omega
   exact hg⟩) (by simp) hcap (by omega) (by decide) hc).mono ?_
 rintro e w'⟨rfl,q,rfl⟩;refine⟨?_,?_⟩
 ·rw[bytes_of,show Lib.bytesOf [10]=[10]from rfl,Lib.index_one,index_pre]
  unfold CutR Lib.cutV;by_cases h:pre noNl t=t.length
  ·rw[if_pos h,if_pos h]
   rfl
  ·rw[if_neg h,if_neg h,if_pos (by omega)]
   simp only[Int.toNat_natCast,List.length_drop];unfold Lib.fromV;by_cases hc:cap=pre noNl t+1
   ·rw[if_pos hc]
    have:=pre_le noNl t;exact⟨o,rfl,.inr (by omega)⟩
   ·rw[if_neg hc]
    refine⟨o+(pre noNl t+1),?_,.inl rfl⟩;simp[Go.WideShapes.add_plain]
 ·exact below_drewN (Below.refl _ _) _
theorem below_x{w v:World}{B x:Nat}(hb:Below B w v)(hx:B<=x)(vs:List Value)(i:Nat):Below B w (setW v x i vs):=below_setW hx vs i hb
theorem rows_setX{B x:Nat}{rs:List Rw}(ht:∀(j:Nat)(r:Rw),rs[j]?=some r->r.t∈tsP):∀(vs:List Value)(i:Nat)(u:World)(cs:Array Value),Rws u B rs->u.heap[x]?=some (.cells cs 31)->Rws (setW u x i vs) B rs
 |[],_,_,_,h,_=>h
 |v::vs,i,u,cs,h,hc=>by
  refine rows_setX ht vs (i+1) _ _ (h.keep fun j r k hr hk=>Below.heap_setCell u ⟨x,i,none⟩ v k (fun e=>?_)) (heap_setZ hc i v);have e':k=x:=e;subst e';rcases(h.own j r hr).2 with⟨h',_⟩|⟨g,cap,cur,h',_,hh,_⟩
  ·rw[h']at hk;cases hk
  ·rw[h']at hk
   have e2:g=k:=Option.some.inj hk;subst e2;rw[hh]at hc;have e3:r.t=31:=(Obj.cells.inj (Option.some.inj hc)).2.1;have:=ht j r hr;rw[e3]at this;exact absurd this (by decide)
theorem src_line(B k:Nat)(S:PS)(w:World):SrcR B (k+1,S) (.returned (.agg #[.int .i64 ((k:Int)+1),.int .i64 0,.slice none 0 0,.slice none 0 0,.slice none 0 0])) w:=by
 unfold SrcR;rw[if_neg (by simp)];rfl
theorem implSrcP_any(b off cap:Nat)(t:List UInt8)(w:World)(hE:Env w w.heap.size)(ht:(t.length:Int)<=1048576)(hcap:t.length<=cap)(hat:At w b off t.length (numF .u8 (bF t))):
 Calls Tryz.prog 6 #[.slice (some ⟨b,off,none⟩) t.length cap] w fun e w'=>(if 100000<t.length then e=.returned (.agg #[.int .i64 (-1),.int .i64 0,.slice none 0 0,.slice none 0 0,.slice none 0 0])else SrcR w.heap.size (psT t ps0 1) e w')/\Below w.heap.size w w':=by
 obtain⟨Post,hPost⟩:∃P:Ending->World->Prop,P=fun e w'=>(if 100000<t.length then e=.returned (.agg #[.int .i64 (-1),.int .i64 0,.slice none 0 0,.slice none 0 0,.slice none 0 0])else SrcR w.heap.size (psT t ps0 1) e w')/\Below w.heap.size w w':=⟨_,rfl⟩
 rw[<-hPost];have HPO:Hid (Post=fun e w'=>(if 100000<t.length then e=.returned (.agg #[.int .i64 (-1),.int .i64 0,.slice none 0 0,.slice none 0 0,.slice none 0 0])else SrcR w.heap.size (psT t ps0 1) e w')/\Below w.heap.size w w'):=hPost;have HE:Hid (Env w w.heap.size):=hE;have HA:Hid (At w b off t.length (numF .u8 (bF t))):=hat;have hbw:b<w.heap.size:=hat.1;clear hPost hE hat;go_enter Tryz.func6,Tryz.ntmps6;go_upto_region 1 with fail;obtain⟨u,hu,bu,cu⟩:∃y,w.alloc (.cells #[.int .i64 0,.int .i64 0,.slice none 0 0,.slice none 0 0,.slice none 0 0] 31)=y/\Hid (Below w.heap.size w y)/\y.heap[w.heap.size]?=some (.cells #[.int .i64 0,.int .i64 0,.slice none 0 0,.slice none 0 0,.slice none 0 0] 31):=⟨_,rfl,(Below.refl _ _).alloc (Nat.le_refl _) _,heap_alloc_newB _ _⟩
 rw[hu];obtain⟨x,hx⟩:∃y,w.heap.size=y:=⟨_,rfl⟩
 rw[hx]at cu⊢;have HX:Hid (w.heap.size=x):=hx;have XC:Hid (u.heap[x]?=some (.cells #[.int .i64 0,.int .i64 0,.slice none 0 0,.slice none 0 0,.slice none 0 0] 31)):=cu;clear hu cu hx;by_cases hlong:100000<t.length
 ·have e1:(100000:Int)<(t.length:Int):=by omega
  have HFIN:Hid (Post (.returned (.agg #[.int .i64 (-1),.int .i64 0,.slice none 0 0,.slice none 0 0,.slice none 0 0])) (setW u x 0 [.int .i64 (-1),.int .i64 0,.slice none 0 0,.slice none 0 0,.slice none 0 0])):=(by
   rw[HPO.out];exact⟨by rw[if_pos hlong],below_x bu.out (Nat.le_of_eq HX.out) _ _⟩:Post (.returned (.agg #[.int .i64 (-1),.int .i64 0,.slice none 0 0,.slice none 0 0,.slice none 0 0])) (setW u x 0 [.int .i64 (-1),.int .i64 0,.slice none 0 0,.slice none 0 0,.slice none 0 0]))
  clear hlong;obtain⟨z0,z1,z2,z3,z4⟩:=hp5 XC.out;have zf:=hp_frz XC.out;go_wp2;exact bodyPost_ret (v:=.agg #[.int .i64 (-1),.int .i64 0,.slice none 0 0,.slice none 0 0,.slice none 0 0]) (by simp[results,Tryz.results6,go_sem,z0,z1,z2,z3,z4]) rfl HFIN.out
 have e1:¬(100000:Int)<(t.length:Int):=by omega
 have HPS:Hid (∀e w',SrcR w.heap.size (psT t ps0 1) e w'->Below w.heap.size w w'->Post e w'):=(fun e w' h1 h2=>by rw[HPO.out];exact⟨by rw[if_neg hlong];exact h1,h2⟩:∀e w',SrcR w.heap.size (psT t ps0 1) e w'->Below w.heap.size w w'->Post e w')
 have HLN:Hid (t.length<=100000):=(by omega:t.length<=100000)
 clear hlong HPO;go_wp2_with fail;refine(newReading_any w.heap.size u (HE.out.below bu.out) bu.out.size).mono ?_;rintro e w1⟨rb,sb,nb,ob,mf,km,sR0,rfl,hb1,hm1⟩;have B1:Hid (Below w.heap.size w w1):=bu.out.trans (hb1.mono bu.out.size);have C1:Hid (w1.heap[x]?=some (.cells #[.int .i64 0,.int .i64 0,.slice none 0 0,.slice none 0 0,.slice none 0 0] 31)):=(hb1.block x (Array.getElem?_eq_some_iff.1 XC.out).1).trans XC.out;obtain⟨B,hBe⟩:∃y,w.heap.size=y:=⟨_,rfl⟩
 have HBE:Hid (w.heap.size=B):=hBe;rw[hBe]at hm1;have M1:Hid (PR w1 B ps0 rb sb nb ob mf km ⟨none,0,0⟩ sR0 ⟨none,0,0⟩ ⟨none,0,0⟩ []):=hm1;clear hb1 hm1 bu XC hBe;go_wp2_with fail;go_loopw [0,4,5,6,7](fun tv nv _ _ _ wr=>∃(o' cap' k:Nat)(t':List UInt8)(S:PS)(sH sR sP sO:Sl)(bv:List Value),tv=.slice (some ⟨b,o',none⟩) t'.length cap'/\nv=.int .i64 ((k:Int)+1)/\t'.length<=cap'/\At wr b o' t'.length (numF .u8 (bF t'))/\PR wr B S rb sb nb ob mf km sH sR sP sO bv/\Bnd S k/\psT t ps0 1=psT t' S (k+1)/\k+t'.length<=t.length/\wr.heap[x]?=some (.cells #[.int .i64 0,.int .i64 0,.slice none 0 0,.slice none 0 0,.slice none 0 0] 31)/\Below w.heap.size w wr)(fun tv _ _ _ _ _=>match tv with|.slice _ k _=>k|_=>0)
 case atStart=>exact⟨off,cap,0,t,ps0,⟨none,0,0⟩,sR0,⟨none,0,0⟩,⟨none,0,0⟩,[],rfl,rfl,hcap,⟨Nat.lt_of_lt_of_le HA.out.1 B1.out.size,fun i hi=>(B1.out.cell (p:=⟨b,off+i,none⟩) hbw).trans (HA.out.2 i hi)⟩,M1.out,Bnd.zero,rfl,by omega,C1.out,B1.out⟩
 case round=>
  clear M1 C1 B1;obtain⟨o',cap',k,t',S,sH,sR,sP,sO,bv,rfl,rfl,hc',hat,hpr,hbd,hps,hkl,hxc,hbl⟩:=hrel;have M:Hid (PR wr B S rb sb nb ob mf km sH sR sP sO bv):=hpr;have HBD:Hid (Bnd S k):=hbd;have HP:Hid (psT t ps0 1=psT t' S (k+1)):=hps;have AT:Hid (At wr b o' t'.length (numF .u8 (bF t'))):=hat;have XC:Hid (wr.heap[x]?=some (.cells #[.int .i64 0,.int .i64 0,.slice none 0 0,.slice none 0 0,.slice none 0 0] 31)):=hxc;have BL:Hid (Below w.heap.size w wr):=hbl;have hBr:B<=wr.heap.size:=by have:=hbl.size;have:=HBE.out;omega
  clear hpr hbd hps hat hxc hbl;by_cases h0:t'=[]
  ·subst h0
   have hl0:¬(0:Int)<(([]:List UInt8).length:Int):=by simp
   obtain⟨c0,c1,c2,c3,c4,c13,c14,c15,c5,cf⟩:=M.out.cells;clear c5;by_cases h3:S.st=3
   rotate_left
   ·have e3:((S.st:Int) !=3)=true:=by rw[bne_iff_ne];omega
    have HFIN:Hid (Post (.returned (.agg #[.int .i64 ((k:Int)+1),.int .i64 0,.slice none 0 0,.slice none 0 0,.slice none 0 0])) (setW wr x 0 [.int .i64 ((k:Int)+1),.int .i64 0,.slice none 0 0,.slice none 0 0,.slice none 0 0])):=(by
     refine HPS.out _ _ ?_ (below_x BL.out (Nat.le_of_eq HX.out) _ _);rw[show psT t ps0 1=(k+1,S)by rw[HP.out,psT_nil,if_neg (fun h=>h3 h.1)]];exact src_line _ _ _ _:Post (.returned (.agg #[.int .i64 ((k:Int)+1),.int .i64 0,.slice none 0 0,.slice none 0 0,.slice none 0 0])) (setW wr x 0 [.int .i64 ((k:Int)+1),.int .i64 0,.slice none 0 0,.slice none 0 0,.slice none 0 0]))
    clear h3;obtain⟨z0,z1,z2,z3,z4⟩:=hp5 XC.out;have zf:=hp_frz XC.out;go_wp2;exact bodyPost_ret (v:=.agg #[.int .i64 ((k:Int)+1),.int .i64 0,.slice none 0 0,.slice none 0 0,.slice none 0 0]) (by simp[results,Tryz.results6,go_sem,z0,z1,z2,z3,z4]) rfl HFIN.out
   have e3:((S.st:Int) !=3)=false:=by rw[bne_eq_false_iff_eq];omega
   have hon:sO.n=S.op.length:=row_n (M.out.R.own 0 _ rfl);by_cases ho:S.op=[]
   rotate_left
   ·have e4:(0:Int)<(sO.n:Int):=by have:S.op.length≠0:=fun e=>ho (List.length_eq_zero_iff.1 e);omega
    have e4n:0<sO.n:=by omega
    have HFIN:Hid (Post (.returned (.agg #[.int .i64 ((k:Int)+1),.int .i64 0,.slice none 0 0,.slice none 0 0,.slice none 0 0])) (setW wr x 0 [.int .i64 ((k:Int)+1),.int .i64 0,.slice none 0 0,.slice none 0 0,.slice none 0 0])):=(by
     refine HPS.out _ _ ?_ (below_x BL.out (Nat.le_of_eq HX.out) _ _);rw[show psT t ps0 1=(k+1,S)by rw[HP.out,psT_nil,if_neg (fun h=>ho h.2)]];exact src_line _ _ _ _:Post (.returned (.agg #[.int .i64 ((k:Int)+1),.int .i64 0,.slice none 0 0,.slice none 0 0,.slice none 0 0])) (setW wr x 0 [.int .i64 ((k:Int)+1),.int .i64 0,.slice none 0 0,.slice none 0 0,.slice none 0 0]))
    clear h3 ho hon;obtain⟨z0,z1,z2,z3,z4⟩:=hp5 XC.out;have zf:=hp_frz XC.out;go_wp2;exact bodyPost_ret (v:=.agg #[.int .i64 ((k:Int)+1),.int .i64 0,.slice none 0 0,.slice none 0 0,.slice none 0 0]) (by simp[results,Tryz.results6,go_sem,z0,z1,z2,z3,z4]) rfl HFIN.out
   have e4:sO.n=0:=by rw[hon,ho];rfl
   have HFIN:Hid (Post (.returned (.agg #[.int .i64 0,.int .i64 S.d,.slice sH.a sH.n sH.c,.slice sR.a sR.n sR.c,.slice sP.a sP.n sP.c])) (setW wr x 0 [.int .i64 0,.int .i64 S.d,.slice sH.a sH.n sH.c,.slice sR.a sR.n sR.c,.slice sP.a sP.n sP.c])):=(by
    refine HPS.out _ _ ?_ (below_x BL.out (Nat.le_of_eq HX.out) _ _);rw[show psT t ps0 1=(0,S)by rw[HP.out,psT_nil,if_pos ⟨h3,ho⟩]];unfold SrcR;rw[if_pos rfl];refine⟨sH,sR,sP,bv,rfl,?_,M.out.L,M.out.I,?_⟩
    ·have q:=rows_setX (x:=x) (fun j r hr=>(srcR_ne j r hr).1) [.int .i64 0,.int .i64 S.d,.slice sH.a sH.n sH.c,.slice sR.a sR.n sR.c,.slice sP.a sP.n sP.c] 0 wr _ M.out.R XC.out
     rw[ppl_closed ho]at q;have d:=q.drop 1;rw[HBE.out];exact d
    ·have b:=HBD.out
     have:=HLN.out;exact⟨by have:=b.ps;show S.ps.length<=100001;omega,by have:=b.bd;show(bodS S).length<=100001;omega,by have:=b.op;show S.op.length<=100001;omega,fun o ho=>by have:=b.th o ho;omega,b.d⟩:Post (.returned (.agg #[.int .i64 0,.int .i64 S.d,.slice sH.a sH.n sH.c,.slice sR.a sR.n sR.c,.slice sP.a sP.n sP.c])) (setW wr x 0 [.int .i64 0,.int .i64 S.d,.slice sH.a sH.n sH.c,.slice sR.a sR.n sR.c,.slice sP.a sP.n sP.c]))
   clear h3 ho hon;obtain⟨z0,z1,z2,z3,z4⟩:=hp5 XC.out;have zf:=hp_frz XC.out;go_wp2;exact bodyPost_ret (v:=.agg #[.int .i64 0,.int .i64 S.d,.slice sH.a sH.n sH.c,.slice sR.a sR.n sR.c,.slice sP.a sP.n sP.c]) (by simp[results,Tryz.results6,go_sem,z0,z1,z2,z3,z4]) rfl HFIN.out
  have hl0n:0<t'.length:=by cases t' with|nil=>exact absurd rfl h0|cons a l=>simp
  have hl0:(0:Int)<(t'.length:Int):=by omega
  have H0:Hid (t'≠[]):=h0;clear h0;have hcv0:(convert 22 22 (.slice (some ⟨wr.heap.size,0,none⟩) 1 1)).run Tryz.prog (wr.alloc (.cells #[.int .u8 10] 5))=.ok (.slice (some ⟨wr.heap.size,0,none⟩) 1 1) (wr.alloc (.cells #[.int .u8 10] 5 (1,2))):=Lib.run_convert_bytes_const wr 22 5 #[.int .u8 10] 1 1 Tryz.underlying22 Tryz.underlying5;go_upto_region 6 with fail;go_wp2_with fail;obtain⟨u1,hu1,bu1,cu1⟩:∃y,wr.alloc (.cells #[.int .u8 10] 5 (1,2))=y/\Below wr.heap.size wr y/\y.cell? ⟨wr.heap.size,0,none⟩=some (.int .u8 10):=⟨_,rfl,(Below.refl _ _).alloc (Nat.le_refl _) _,World.cell?_alloc_mark _ _ _ _ _⟩
  rw[hu1];have AT1:Hid (At u1 b o' t'.length (numF .u8 (bF t'))):=(⟨Nat.lt_of_lt_of_le AT.out.1 bu1.size,fun i hi=>(bu1.cell (p:=⟨b,o'+i,none⟩) AT.out.1).trans (AT.out.2 i hi)⟩:At u1 b o' t'.length (numF .u8 (bF t')))
  have M1:Hid (PR u1 B S rb sb nb ob mf km sH sR sP sO bv):=M.out.below bu1;refine(cut_any b o' cap' t' wr.heap.size 1 u1 M1.out.E (by have:=HLN.out;omega) hc' AT1.out cu1).mono ?_;rintro e u2⟨hcut,bu2⟩;have BB:Below wr.heap.size wr u2:=bu1.trans (bu2.mono bu1.size);have M2:Hid (PR u2 B S rb sb nb ob mf km sH sR sP sO bv):=M.out.below BB;have XC2:Hid (u2.heap[x]?=some (.cells #[.int .i64 0,.int .i64 0,.slice none 0 0,.slice none 0 0,.slice none 0 0] 31)):=(BB.block x (Array.getElem?_eq_some_iff.1 XC.out).1).trans XC.out;have BL2:Hid (Below w.heap.size w u2):=BL.out.trans (BB.mono BL.out.size);have AT2:Hid (At u2 b o' t'.length (numF .u8 (bF t'))):=(⟨Nat.lt_of_lt_of_le AT.out.1 BB.size,fun i hi=>(BB.cell (p:=⟨b,o'+i,none⟩) AT.out.1).trans (AT.out.2 i hi)⟩:At u2 b o' t'.length (numF .u8 (bF t')))
  have hB2:B<=u2.heap.size:=by have:=BB.size;omega
  clear hu1 bu1 cu1 AT1 M1 bu2 BB AT M XC BL hcv0 hBr;unfold CutR at hcut;by_cases hp:pre noNl t'=t'.length
  ·rw[if_pos hp]at hcut
   subst hcut;have HFIN:Hid (Post (.returned (.agg #[.int .i64 ((k:Int)+1),.int .i64 0,.slice none 0 0,.slice none 0 0,.slice none 0 0])) (setW u2 x 0 [.int .i64 ((k:Int)+1),.int .i64 0,.slice none 0 0,.slice none 0 0,.slice none 0 0])):=(by
    refine HPS.out _ _ ?_ (below_x BL2.out (Nat.le_of_eq HX.out) _ _);rw[show psT t ps0 1=(k+1,S)by rw[HP.out,psT_eq,dif_neg H0.out,dif_pos hp]];exact src_line _ _ _ _:Post (.returned (.agg #[.int .i64 ((k:Int)+1),.int .i64 0,.slice none 0 0,.slice none 0 0,.slice none 0 0])) (setW u2 x 0 [.int .i64 ((k:Int)+1),.int .i64 0,.slice none 0 0,.slice none 0 0,.slice none 0 0]))
   have XC:Hid (u2.heap[x]?=some (.cells #[.int .i64 0,.int .i64 0,.slice none 0 0,.slice none 0 0,.slice none 0 0] 31)):=XC2.out;clear hp;obtain⟨z0,z1,z2,z3,z4⟩:=hp5 XC.out;have zf:=hp_frz XC.out;go_wp2;exact bodyPost_ret (v:=.agg #[.int .i64 ((k:Int)+1),.int .i64 0,.slice none 0 0,.slice none 0 0,.slice none 0 0]) (by simp[results,Tryz.results6,go_sem,z0,z1,z2,z3,z4]) rfl HFIN.out
  rw[if_neg hp]at hcut;obtain⟨o2,rfl,ho2⟩:=hcut;obtain⟨kk,hkk⟩:∃y,pre noNl t'=y:=⟨_,rfl⟩
  have hkl2:kk<t'.length:=by have:=pre_le noNl t';omega
  have HST:Hid (psT t ps0 1=match linS S (t'.take kk)with|none=>(k+1,S)|some S'=>psT (t'.drop (kk+1)) S' (k+1+1)):=(by
   rw[HP.out,psT_eq,dif_neg H0.out,dif_neg hp,hkk];rfl:psT t ps0 1=match linS S (t'.take kk)with|none=>(k+1,S)|some S'=>psT (t'.drop (kk+1)) S' (k+1+1))
  rw[hkk]at ho2⊢;have HO2:Hid (o2=o'+(kk+1)∨(t'.drop (kk+1)).length=0):=ho2;have etk:(t'.take kk).length=kk:=by rw[List.length_take];omega
  obtain⟨l,hl⟩:∃y,t'.take kk=y:=⟨_,rfl⟩
  have hcv:(convert 22 9 (.slice (some ⟨b,o',none⟩) kk cap')).run Tryz.prog u2=.ok (.string (stB l)) u2:=by
   have q:=conv_bytes cap' (at_take AT2.out kk);rw[etk,hl]at q;exact q
  rw[hl]at HST etk;have hll:(l.length:Int)<=199999:=by have:=HLN.out;omega
  obtain⟨t2,ht2⟩:∃y,t'.drop (kk+1)=y:=⟨_,rfl⟩
  have htl:t2.length=t'.length-(kk+1):=by rw[<-ht2,List.length_drop]
  have HT2:Hid (t'.drop (kk+1)=t2):=ht2;have HTL:Hid (t2.length=t'.length-(kk+1)):=htl;rw[ht2]at HST HO2⊢;clear hp hkk ho2 etk hl ht2 htl;go_wp2_with fail;refine(take_any B S rb sb nb ob mf km sH sR sP sO bv l u2 hB2 M2.out (HBD.out.mono (by have:=HLN.out;omega)) hll).mono ?_;rintro e u3⟨f3,rfl,p3⟩;have XC:Hid (u3.heap[x]?=some (.cells #[.int .i64 0,.int .i64 0,.slice none 0 0,.slice none 0 0,.slice none 0 0] 31)):=f3.k x _ XC2.out (fun c t f e=>by
   have:31=t:=(Obj.cells.inj e).2.1;subst this;decide)
  have BL3:Hid (Below w.heap.size w u3):=(by
   have q:=f3.b;rw[<-HBE.out]at q;exact BL2.out.trans q:Below w.heap.size w u3)
  cases hls:linS S l with
  |none=>
   simp only[Option.isSome_none];have HFIN:Hid (Post (.returned (.agg #[.int .i64 ((k:Int)+1),.int .i64 0,.slice none 0 0,.slice none 0 0,.slice none 0 0])) (setW u3 x 0 [.int .i64 ((k:Int)+1),.int .i64 0,.slice none 0 0,.slice none 0 0,.slice none 0 0])):=(by
    refine HPS.out _ _ ?_ (below_x BL3.out (Nat.le_of_eq HX.out) _ _);rw[show psT t ps0 1=(k+1,S)by rw[HST.out,hls]];exact src_line _ _ _ _:Post (.returned (.agg #[.int .i64 ((k:Int)+1),.int .i64 0,.slice none 0 0,.slice none 0 0,.slice none 0 0])) (setW u3 x 0 [.int .i64 ((k:Int)+1),.int .i64 0,.slice none 0 0,.slice none 0 0,.slice none 0 0]))
   clear hls f3 p3;obtain⟨z0,z1,z2,z3,z4⟩:=hp5 XC.out;have zf:=hp_frz XC.out;go_wp2;exact bodyPost_ret (v:=.agg #[.int .i64 ((k:Int)+1),.int .i64 0,.slice none 0 0,.slice none 0 0,.slice none 0 0]) (by simp[results,Tryz.results6,go_sem,z0,z1,z2,z3,z4]) rfl HFIN.out
  |some S'=>
   simp only[Option.isSome_some];obtain⟨sH',sR',sP',sO',bv',m3⟩:=p3 S' hls;have HM3:Hid (PR u3 B S' rb sb nb ob mf km sH' sR' sP' sO' bv'):=m3;have HB3:Hid (Bnd S' (k+1)):=HBD.out.line M2.out.I hls;have HP3:Hid (psT t ps0 1=psT t2 S' (k+1+1)):=(by rw[HST.out,hls]:psT t ps0 1=psT t2 S' (k+1+1))
   have AT3:Hid (At u3 b o2 t2.length (numF .u8 (bF t2))):=(by
    have hbu:b<u3.heap.size:=Nat.lt_of_lt_of_le hbw BL3.out.size;rcases HO2.out with e|e
    ·have q:=at_drop AT2.out (kk+1) (by omega)
     rw[HT2.out,<-e]at q;exact⟨hbu,fun i hi=>(f3.b.cell (p:=⟨b,o2+i,none⟩) (by have:=HBE.out;show b<B;omega)).trans (q.2 i hi)⟩
    ·exact⟨hbu,fun i hi=>by omega⟩:At u3 b o2 t2.length (numF .u8 (bF t2)))
   have hw1:IntKind.i64.wrap ((k:Int)+1+1)=(k:Int)+1+1:=i64_idR (by omega) (by have:=HLN.out;omega);clear hls f3 p3 m3;go_wp2_with fail;go_roundw
   case rel=>exact⟨o2,cap'-(kk+1),k+1,t2,S',sH',sR',sP',sO',bv',rfl,by go_num,by have:=HTL.out;omega,AT3.out,HM3.out,HB3.out,HP3.out,by have:=HTL.out;omega,XC.out,BL3.out⟩
   case measure=>have:=HTL.out;simp;omega
end Go.Proofs.YtblfmpgdhpbffaaGreatDoor
