import Derived.Test.YtbahofiiaodpdaaGreatOfDrawFlat
import Derived.Test.YtbahofiiaodpdaaGreatCopyMach
import Derived.Test.YtbahofiiaodpdaaGreatOfMachImpl
import Derived.Test.YtbahofiiaodpdaaGreatOfStepImpl
set_option maxHeartbeats 2000000
set_option maxRecDepth 20000
namespace Go.Proofs.YtbahofiiaodpdaaGreat
open Go.RowKit
structure HD where
 base:Int
 wr:Bool
 v:Value
 ds:List Int
def hdC(h:HD):List Value:=[.int .u64 h.base,.bool h.wr,h.v]
def obC(o:Int×Int):List Value:=[.int .i64 o.1,.int .u64 o.2]
def u64r(x:Int):Prop:=0<=x/\x<=18446744073709551615
theorem u64r_wrap(x:Int):u64r (IntKind.u64.wrap x):=by
 unfold u64r;rw[IntKind.wrap_u64];omega
structure Md where
 vR:Value
 z:Bool
 c:Bool
 hz:Bool
 hc:Bool
 vH:Value
 pc:Int
 st:Int
 vO:Value
 rs:List Int
 hs:List HD
 os:List (Int×Int)
def md0:Md:=⟨.slice none 0 0,false,false,false,false,.slice none 0 0,0,0,.slice none 0 0,[],[],[]⟩
def Md.a(m:Md):Array Value:=#[m.vR,.bool m.z,.bool m.c,.bool m.hz,.bool m.hc,m.vH,.int .i64 m.pc,.int .i64 m.st,m.vO]
structure DW(w:World)(p:Nat)(ao:Option Addr)(n cap:Nat)(m:Md)(u:World):Prop where
 F:Fw p w u
 K:Cur u p ao n cap
 R:u.ownsRow w.heap.size 77 1 m.vR m.rs.length (m.rs.map (.int .u64 ·))
 H:u.ownsRow w.heap.size 79 3 m.vH m.hs.length (m.hs.flatMap hdC)
 O:u.ownsRow w.heap.size 82 2 m.vO m.os.length (m.os.flatMap obC)
 D:∀h∈m.hs,u.ownsRow w.heap.size 5 1 h.v h.ds.length (h.ds.map (.int .u8 ·))
 rr:∀x∈m.rs,u64r x
 hr:∀h∈m.hs,u64r h.base/\h.ds.length<=4100/\∀x∈h.ds,0<=x/\x<=255
 pw:p<w.heap.size
theorem DW.fw{w u u':World}{p n cap:Nat}{ao:Option Addr}{m:Md}(h:DW w p ao n cap m u)(f:Fw p u u')(c:Cur u' p ao n cap):DW w p ao n cap m u':=
 ⟨h.F.trans f,c,row_fw h.R f h.pw,row_fw h.H f h.pw,row_fw h.O f h.pw,fun x hx=>row_fw (h.D x hx) f h.pw,h.rr,h.hr,h.pw⟩
theorem DW.below{w u u':World}{p n cap:Nat}{ao:Option Addr}{m:Md}(h:DW w p ao n cap m u)(f:Below u.heap.size u u'):DW w p ao n cap m u':=h.fw (.of_below f) (h.K.below f)
theorem DW.put{w u:World}{p n cap q:Nat}{ao:Option Addr}{m:Md}(h:DW w p ao n cap m u)(hq:w.heap.size<=q){cs:Array Value}(hx:u.heap[q]?=some (.cells cs 40))(j:Nat)(v:Value):DW w p ao n cap m (u.setCell ⟨q,j,none⟩ v):=by
 have ne:∀{e s n':Nat}{v':Value}{xs:List Value},u.ownsRow w.heap.size e s v' n' xs->40≠e->v'.ownBlock≠some q:=fun h2 he e1=>by
  rcases h2.2 with⟨h',_⟩|⟨g,cap,cur,h',_,h4,_⟩
  ·rw[h']at e1;cases e1
  ·rw[h']at e1
   have e2:g=q:=Option.some.inj e1;subst e2;rw[hx]at h4;exact he (Obj.cells.inj (Option.some.inj h4)).2.1
 exact⟨h.F.put hq _ _,h.K.put (by have:=h.pw;omega) _ _,row_put h.R (ne h.R (by decide)) _ _,row_put h.H (ne h.H (by decide)) _ _,row_put h.O (ne h.O (by decide)) _ _,fun x hx=>row_put (h.D x hx) (ne (h.D x hx) (by decide)) _ _,h.rr,h.hr,h.pw⟩
structure DX(w:World)(p:Nat)(ao:Option Addr)(n cap:Nat)(q r:Nat)(m:Md)(u:World):Prop where
 W:DW w p ao n cap m u
 X:u.heap[q]?=some (.cells m.a 40)
 Z:u.heap[r]?=some (.cells md0.a 40)
 wq:w.heap.size<=q
 wr:w.heap.size<=r
 ne:q≠r
theorem hq_fw{p q:Nat}{u u':World}{o:Obj}(h:u.heap[q]?=some o)(f:Fw p u u')(hp:p≠q):u'.heap[q]?=some o:=(f.block q (Array.getElem?_eq_some_iff.1 h).1 (fun e=>hp e.symm)).trans h
theorem DX.fw{w u u':World}{p n cap q r:Nat}{ao:Option Addr}{m:Md}(h:DX w p ao n cap q r m u)(f:Fw p u u')(c:Cur u' p ao n cap):DX w p ao n cap q r m u':=
 ⟨h.W.fw f c,hq_fw h.X f (by have:=h.W.pw;have:=h.wq;omega),hq_fw h.Z f (by have:=h.W.pw;have:=h.wr;omega),h.wq,h.wr,h.ne⟩
theorem DX.below{w u u':World}{p n cap q r:Nat}{ao:Option Addr}{m:Md}(h:DX w p ao n cap q r m u)(f:Below u.heap.size u u'):DX w p ao n cap q r m u':=h.fw (.of_below f) (h.W.K.below f)
theorem DX.set{w u:World}{p n cap q r:Nat}{ao:Option Addr}{m:Md}(h:DX w p ao n cap q r m u)(m':Md)(j:Nat)(v:Value)(hv:m.a.setIfInBounds j v=m'.a)(e1:m'.vR=m.vR)(e2:m'.vH=m.vH)(e3:m'.vO=m.vO)(e4:m'.rs=m.rs)(e5:m'.hs=m.hs)(e6:m'.os=m.os):DX w p ao n cap q r m' (u.setCell ⟨q,j,none⟩ v):=by
 have k:=h.W.put h.wq h.X j v;refine⟨⟨k.F,k.K,by rw[e1,e4];exact k.R,by rw[e2,e5];exact k.H,by rw[e3,e6];exact k.O,by rw[e5];exact k.D,by rw[e4];exact k.rr,by rw[e5];exact k.hr,k.pw⟩,?_,?_,h.wq,h.wr,h.ne⟩
 ·rw[<-hv];exact hq_set h.X j v
 ·exact hq_other h.Z (fun e=>h.ne e.symm) j v
theorem DX.store{w u:World}{p n cap q r:Nat}{ao:Option Addr}{m':Md}{cs:Array Value}(h:DW w p ao n cap m' u)(X:u.heap[q]?=some (.cells cs 40))(Z:u.heap[r]?=some (.cells md0.a 40))(wq:w.heap.size<=q)(wr:w.heap.size<=r)(ne:q≠r)(j:Nat)(v:Value)(hv:cs.setIfInBounds j v=m'.a):DX w p ao n cap q r m' (u.setCell ⟨q,j,none⟩ v):=
 ⟨h.put wq X j v,by rw[<-hv];exact hq_set X j v,hq_other Z (fun e=>ne e.symm) j v,wq,wr,ne⟩
theorem grown_obj{u u':World}{row:Option Nat}{q:Nat}{o:Obj}(h:u.heap[q]?=some o)(hg:u.grownBy u' row)(hn:row≠some q):u'.heap[q]?=some o:=(hg.block q (Array.getElem?_eq_some_iff.1 h).1 (fun e=>hn e.symm)).trans h
theorem grown_ne{w u:World}{q e s n':Nat}{v':Value}{xs:List Value}{cs:Array Value}(hx:u.heap[q]?=some (.cells cs 40))(h2:u.ownsRow w.heap.size e s v' n' xs)(he:40≠e):v'.ownBlock≠some q:=fun e1=>by
 rcases h2.2 with⟨h',_⟩|⟨g,cap,cur,h',_,h4,_⟩
 ·rw[h']at e1;cases e1
 ·rw[h']at e1
  have e2:g=q:=Option.some.inj e1;subst e2;rw[hx]at h4;exact he (Obj.cells.inj (Option.some.inj h4)).2.1
theorem DW.growR{w u u':World}{p n cap:Nat}{ao:Option Addr}{m:Md}(h:DW w p ao n cap m u)(v':Value)(x:Int)(hx:u64r x)(hg:u.grownBy u' m.vR.ownBlock)(ho:u'.ownsRow w.heap.size 77 1 v' (m.rs.length+1) (m.rs.map (.int .u64 ·)++[.int .u64 x])):DW w p ao n cap {m with vR:=v',rs:=m.rs++[x]} u':=by
 refine⟨h.F.grown hg (fun k hk=>(h.R.lt k hk).1),h.K.grown hg (fun k hk=>by have:=(h.R.lt k hk).1;have:=h.pw;omega),?_,h.H.kept hg (rows_apart h.H h.R (by decide)),h.O.kept hg (rows_apart h.O h.R (by decide)),fun y hy=>(h.D y hy).kept hg (rows_apart (h.D y hy) h.R (by decide)),fun y hy=>?_,h.hr,h.pw⟩
 ·show u'.ownsRow _ _ _ v' (m.rs++[x]).length ((m.rs++[x]).map _)
  rw[List.length_append,List.map_append];exact ho
 ·rcases List.mem_append.1 hy with hy|hy
  ·exact h.rr y hy
  ·have e:y=x:=by simpa using hy
   rw[e];exact hx
theorem DW.growH{w u u':World}{p n cap:Nat}{ao:Option Addr}{m:Md}(h:DW w p ao n cap m u)(v':Value)(x:HD)(hx:u64r x.base/\x.ds.length<=4100/\∀y∈x.ds,0<=y/\y<=255)(hd:u.ownsRow w.heap.size 5 1 x.v x.ds.length (x.ds.map (.int .u8 ·)))(hg:u.grownBy u' m.vH.ownBlock)(ho:u'.ownsRow w.heap.size 79 3 v' (m.hs.length+1) (m.hs.flatMap hdC++hdC x)):DW w p ao n cap {m with vH:=v',hs:=m.hs++[x]} u':=by
 refine⟨h.F.grown hg (fun k hk=>(h.H.lt k hk).1),h.K.grown hg (fun k hk=>by have:=(h.H.lt k hk).1;have:=h.pw;omega),h.R.kept hg (rows_apart h.R h.H (by decide)),?_,h.O.kept hg (rows_apart h.O h.H (by decide)),fun y hy=>?_,h.rr,fun y hy=>?_,h.pw⟩
 ·show u'.ownsRow _ _ _ v' (m.hs++[x]).length ((m.hs++[x]).flatMap _)
  rw[List.length_append,List.flatMap_append];simpa using ho
 ·rcases List.mem_append.1 hy with hy|hy
  ·exact(h.D y hy).kept hg (rows_apart (h.D y hy) h.H (by decide))
  ·have e:y=x:=by simpa using hy
   rw[e];exact hd.kept hg (rows_apart hd h.H (by decide))
 ·rcases List.mem_append.1 hy with hy|hy
  ·exact h.hr y hy
  ·have e:y=x:=by simpa using hy
   rw[e];exact hx
theorem z9{u:World}{r:Nat}(h:u.heap[r]?=some (.cells md0.a 40)):u.cell? ⟨r,0,none⟩=some (.slice none 0 0)/\u.cell? ⟨r,1,none⟩=some (.bool false)/\u.cell? ⟨r,2,none⟩=some (.bool false)/\u.cell? ⟨r,3,none⟩=some (.bool false)/\u.cell? ⟨r,4,none⟩=some (.bool false)/\u.cell? ⟨r,5,none⟩=some (.slice none 0 0)/\u.cell? ⟨r,6,none⟩=some (.int .i64 0)/\u.cell? ⟨r,7,none⟩=some (.int .i64 0)/\u.cell? ⟨r,8,none⟩=some (.slice none 0 0)/\(∀j,u.frozen? ⟨r,j,none⟩=false)/\r<u.heap.size:=
 ⟨hq_cell h 0,hq_cell h 1,hq_cell h 2,hq_cell h 3,hq_cell h 4,hq_cell h 5,hq_cell h 6,hq_cell h 7,hq_cell h 8,hq_free h,(Array.getElem?_eq_some_iff.1 h).1⟩
theorem DW.put9{w u:World}{p n cap q:Nat}{ao:Option Addr}{m:Md}(h:DW w p ao n cap m u)(hq:w.heap.size<=q){cs:Array Value}(hx:u.heap[q]?=some (.cells cs 40))(v0 v1 v2 v3 v4 v5 v6 v7 v8:Value):DW w p ao n cap m (((((((((u.setCell ⟨q,0,none⟩ v0).setCell ⟨q,1,none⟩ v1).setCell ⟨q,2,none⟩ v2).setCell ⟨q,3,none⟩ v3).setCell ⟨q,4,none⟩ v4).setCell ⟨q,5,none⟩ v5).setCell ⟨q,6,none⟩ v6).setCell ⟨q,7,none⟩ v7).setCell ⟨q,8,none⟩ v8):=by
 have x0:=hq_set hx 0 v0;have x1:=hq_set x0 1 v1;have x2:=hq_set x1 2 v2;have x3:=hq_set x2 3 v3;have x4:=hq_set x3 4 v4;have x5:=hq_set x4 5 v5;have x6:=hq_set x5 6 v6;have x7:=hq_set x6 7 v7;exact((((((((h.put hq hx 0 v0).put hq x0 1 v1).put hq x1 2 v2).put hq x2 3 v3).put hq x3 4 v4).put hq x4 5 v5).put hq x5 6 v6).put hq x6 7 v7).put hq x7 8 v8
theorem DX.cells{w u:World}{p n cap q r:Nat}{ao:Option Addr}{m:Md}(h:DX w p ao n cap q r m u):(u.cell? ⟨q,0,none⟩=some m.vR/\u.cell? ⟨q,1,none⟩=some (.bool m.z)/\u.cell? ⟨q,2,none⟩=some (.bool m.c)/\u.cell? ⟨q,3,none⟩=some (.bool m.hz)/\u.cell? ⟨q,4,none⟩=some (.bool m.hc)/\u.cell? ⟨q,5,none⟩=some m.vH/\u.cell? ⟨q,6,none⟩=some (.int .i64 m.pc)/\u.cell? ⟨q,7,none⟩=some (.int .i64 m.st)/\u.cell? ⟨q,8,none⟩=some m.vO)/\(∀j,u.frozen? ⟨q,j,none⟩=false)/\q<u.heap.size:=
 ⟨⟨hq_cell h.X 0,hq_cell h.X 1,hq_cell h.X 2,hq_cell h.X 3,hq_cell h.X 4,hq_cell h.X 5,hq_cell h.X 6,hq_cell h.X 7,hq_cell h.X 8⟩,hq_free h.X,(Array.getElem?_eq_some_iff.1 h.X).1⟩
theorem l1Word_any(p:Nat)(ao:Option Addr)(n cap:Nat)(w:World)(hc:Cur w p ao n cap):
 Calls Tryz.prog 95 #[.pointer (some ⟨p,0,none⟩)] w fun e w'=>∃x:Int,e=.returned (.int .u64 x)/\u64r x/\Fw p w w'/\Cur w' p ao n cap:=by
 have HC:Hid (Cur w p ao n cap):=hc;clear hc;go_enter Tryz.func95,Tryz.ntmps95;go_wp2_with fail;refine(l1Below_any p ao n cap 6 _ (by omega) HC.out).mono ?_;rintro e w1⟨k,rfl,k0,k1,f,c⟩;have F1:Hid (Fw p w w1):=f;have C1:Hid (Cur w1 p ao n cap):=c;clear f c;go_wp2_with fail;refine(l1Below_any p ao n cap 300 _ (by omega) C1.out).mono ?_;rintro e w2⟨x,rfl,x0,x1,f,c⟩;have F2:Hid (Fw p w w2):=F1.out.trans f;have C2:Hid (Cur w2 p ao n cap):=c;clear f c;by_cases h0:k=0
 ·have e0:(k==0)=true:=by rw[beq_iff_eq];exact h0
  go_wp2_with fail;go_ret;exact⟨_,rfl,⟨by omega,by omega⟩,F2.out,C2.out⟩
 ·have e0:(k==0)=false:=by rw[beq_eq_false_iff_ne];exact h0
  by_cases h1:k=1
  ·have e1:(k==1)=true:=by rw[beq_iff_eq];exact h1
   go_wp2_with fail;go_ret;exact⟨_,rfl,⟨by omega,by omega⟩,F2.out,C2.out⟩
  ·have e1:(k==1)=false:=by rw[beq_eq_false_iff_ne];exact h1
   go_wp2_with fail;go_ret;exact⟨_,rfl,⟨by omega,by omega⟩,F2.out,C2.out⟩
theorem l1Some_any(p:Nat)(ao:Option Addr)(n cap:Nat)(m:Int)(w:World)(m0:0<=m)(m1:m<=4096)(hc:Cur w p ao n cap):
 Calls Tryz.prog 71 #[.pointer (some ⟨p,0,none⟩),.int .i64 m] w fun e w'=>∃(v:Value),e=.returned v/\∃ds:List Int,(ds.length:Int)=m/\(∀x∈ds,0<=x/\x<=255)/\w'.ownsRow w.heap.size 5 1 v ds.length (ds.map (.int .u8 ·))/\Fw p w w'/\Cur w' p ao n cap:=by
 have lp:=hc.lt;have HC:Hid (Cur w p ao n cap):=hc;obtain⟨iS,hi,hz0,hz1,hz2⟩:=info_parts info_cB;have HIS:Hid (Tryz.prog.info? 5=some iS/\iS.zero=some (.int .u8 0)/\iS.size=1/\iS.bytes=1):=⟨hi,hz0,hz1,hz2⟩
 clear hc hi hz0 hz1 hz2;go_enter Tryz.func71,Tryz.ntmps71;go_wp2_with fail;have f0:Fw p w (w.alloc (.cells #[] 5)):=.of_below ((Below.refl _ _).alloc (Nat.le_refl _) _);have c0:Cur (w.alloc (.cells #[] 5)) p ao n cap:=HC.out.below ((Below.refl _ _).alloc (Nat.le_refl _) _);have o0:(w.alloc (.cells #[] 5)).ownsRow w.heap.size 5 1 (.slice (some ⟨w.heap.size,0,none⟩) 0 0) 0 []:=World.ownsRow_lit w #[] 0 (Nat.le_refl _) (by unfold maxLen;omega) rfl;go_loopw [5,6](fun ov iv wr=>∃(ds:List Int),iv=.int .i64 (ds.length:Int)/\(ds.length:Int)<=m/\(∀x∈ds,0<=x/\x<=255)/\wr.ownsRow w.heap.size 5 1 ov ds.length (ds.map (.int .u8 ·))/\Fw p w wr/\Cur wr p ao n cap)(fun _ iv _=>(m-intOf iv).toNat)
 case atStart=>exact⟨[],rfl,by simpa using m0,fun _ h=>absurd h List.not_mem_nil,o0,f0,c0⟩
 case round=>
  clear f0 c0 o0 HC;obtain⟨ds,hiv,hyl,hds,ho,hf,hcu⟩:=hrel;subst hiv;obtain⟨k,hk⟩:∃k:Int,(ds.length:Int)=k:=⟨_,rfl⟩
  have HK:Hid ((ds.length:Int)=k):=hk;have k0:0<=k:=by omega
  rw[hk]at hyl⊢;obtain⟨oa,oc,hov⟩:=row_slD ho;subst hov;have HO:Hid (wr.ownsRow w.heap.size 5 1 (.slice oa ds.length oc) ds.length (ds.map (.int .u8 ·))):=ho;have HF:Hid (Fw p w wr):=hf;have HU:Hid (Cur wr p ao n cap):=hcu;have HD:Hid (∀x∈ds,0<=x/\x<=255):=hds;clear hk ho hf hcu hds;by_cases hlt:k<m
  ·go_wp2_with fail
   refine(l1Byte_any p ao n cap wr HU.out).mono ?_;rintro e w2⟨x,rfl,x0,x1,f,c⟩;have F2:Hid (Fw p w w2):=HF.out.trans f;have C2:Hid (Cur w2 p ao n cap):=c;have O2:Hid (w2.ownsRow w.heap.size 5 1 (.slice oa ds.length oc) ds.length (ds.map (.int .u8 ·))):=row_fw HO.out f lp;have hBa:∀o,w.heap.size<=(w2.alloc o).heap.size:=fun o=>Nat.le_trans F2.out.size (by simp)
   have HCN:Hid (∀j u,[Value.int .u8 x][j]?=some u->(w2.alloc (.cells #[.int .u8 x] 5)).cell? ((⟨w2.heap.size,0,none⟩:Addr).add j)=some u):=cells_newD w2 _ _;have OA:Hid (∀o,(w2.alloc o).ownsRow w.heap.size 5 1 (.slice oa ds.length oc) ds.length (ds.map (.int .u8 ·))):=fun o=>row_belowD O2.out ((Below.refl _ _).alloc (Nat.le_refl _) _)
   have hyn:ds.length<=4096:=by have:=HK.out;omega
   clear f c;go_wp2_with(first|(at_builtin;refine wpList_append_own_at _ rfl _ _ 22 rfl w.heap.size 5 iS _ 1 1 Tryz.underlying22 HIS.out.1 HIS.out.2.1 HIS.out.2.2.1 HIS.out.2.2.2 rfl (by decide) _ _ _ rfl (OA.out _) ⟨w2.heap.size,0,none⟩ 1 1 [Value.int .u8 x] rfl rfl HCN.out ?c2 ?c3 ?c4 (hBa _) ?_))
   case c2=>simp[Value.oneCell']
   case c3=>unfold maxLen;omega
   case c4=>omega
   intro v' w3 hown hgrow _ _;have ba:Below w2.heap.size w2 (w2.alloc (.cells #[.int .u8 x] 5)):=(Below.refl _ _).alloc (Nat.le_refl _) _;have F3:Hid (Fw p w w3):=(F2.out.trans (.of_below ba)).grown hgrow (fun j hj=>(O2.out.lt j hj).1);have C3:Hid (Cur w3 p ao n cap):=(C2.out.below ba).grown hgrow (fun j hj=>by have:=(O2.out.lt j hj).1;omega);have O3:Hid (w3.ownsRow w.heap.size 5 1 v' (ds++[x]).length ((ds++[x]).map (.int .u8 ·))):=(by rw[List.length_append,List.map_append];exact hown:w3.ownsRow w.heap.size 5 1 v' (ds++[x]).length ((ds++[x]).map (.int .u8 ·)))
   clear hown hgrow ba;go_wp2_with fail;go_roundw
   case rel=>exact⟨ds++[x],by have:=HK.out;simp;omega,by have:=HK.out;simp;omega,fun y hy=>by
    rcases List.mem_append.1 hy with hy|hy
    ·exact HD.out y hy
    ·have e:y=x:=by simpa using hy
     rw[e];exact⟨x0,x1⟩,O3.out,F3.out,C3.out⟩
   case measure=>simp[intOf];omega
  ·go_wp2_with fail
   go_ret;exact⟨_,rfl,ds,by have:=HK.out;omega,HD.out,HO.out,HF.out,HU.out⟩
theorem dx_new(w:World)(p:Nat)(ao:Option Addr)(n cap:Nat)(hc:Cur w p ao n cap):DX w p ao n cap (w.heap.size+1) w.heap.size md0 ((w.alloc (.cells md0.a 40)).alloc (.cells md0.a 40)):=by
 have b:Below w.heap.size w ((w.alloc (.cells md0.a 40)).alloc (.cells md0.a 40)):=((Below.refl _ _).alloc (Nat.le_refl _) _).alloc (by simp) _;have e1:(w.alloc (.cells md0.a 40)).heap.size=w.heap.size+1:=by simp
 refine⟨⟨.of_below b,hc.below b,⟨rfl,.inl ⟨rfl,rfl⟩⟩,⟨rfl,.inl ⟨rfl,rfl⟩⟩,⟨rfl,.inl ⟨rfl,rfl⟩⟩,fun _ h=>absurd h List.not_mem_nil,fun _ h=>absurd h List.not_mem_nil,fun _ h=>absurd h List.not_mem_nil,hc.lt⟩,?_,?_,Nat.le_succ _,Nat.le_refl _,by omega⟩
 ·rw[<-e1];exact hq_new _ _
 ·exact(Below.heap_alloc _ _ _ (by rw[e1];omega)).trans (hq_new w _)
theorem hd_at:∀(hs:List HD)(k:Nat)(x:HD),hs[k]?=some x->(hs.flatMap hdC)[k*3]?=some (.int .u64 x.base)
 |[],k,x,h=>by simp at h
 |y::l,0,x,h=>by
  have e:y=x:=by simpa using h
  rw[e];rfl
 |y::l,k+1,x,h=>by
  rw[List.flatMap_cons,List.getElem?_append_right (by show 3<=_;omega)];have:=hd_at l k x (by simpa using h);rw[show(k+1)*3-(hdC y).length=k*3 by show(k+1)*3-3=k*3;omega];exact this
structure ML(B:Nat)(m:Md)(u:World):Prop where
 R:u.ownsRow B 77 1 m.vR m.rs.length (m.rs.map (.int .u64 ·))
 H:u.ownsRow B 79 3 m.vH m.hs.length (m.hs.flatMap hdC)
 O:u.ownsRow B 82 2 m.vO m.os.length (m.os.flatMap obC)
 D:∀h∈m.hs,u.ownsRow B 5 1 h.v h.ds.length (h.ds.map (.int .u8 ·))
 rr:∀x∈m.rs,u64r x
 hr:∀h∈m.hs,u64r h.base/\h.ds.length<=4100/\∀x∈h.ds,0<=x/\x<=255
theorem DW.ml{w:World}{p n cap:Nat}{ao:Option Addr}{m:Md}{u:World}(h:DW w p ao n cap m u):ML w.heap.size m u:=⟨h.R,h.H,h.O,h.D,h.rr,h.hr⟩
theorem ML.below{B:Nat}{m:Md}{u u':World}(h:ML B m u)(b:Below u.heap.size u u'):ML B m u':=⟨row_belowD h.R b,row_belowD h.H b,row_belowD h.O b,fun x hx=>row_belowD (h.D x hx) b,h.rr,h.hr⟩
theorem DW.down{w w1 u:World}{p n cap:Nat}{ao:Option Addr}{m:Md}(h:DW w1 p ao n cap m u)(f:Fw p w w1)(hp:p<w.heap.size):DW w p ao n cap m u:=by
 have k:∀{e s n':Nat}{v:Value}{xs:List Value},u.ownsRow w1.heap.size e s v n' xs->u.ownsRow w.heap.size e s v n' xs:=fun h=>by
  refine⟨h.1,?_⟩;rcases h.2 with h'|⟨g,cap,cur,h',h1,h2⟩
  ·exact .inl h'
  ·exact .inr ⟨g,cap,cur,h',Nat.le_trans f.size h1,h2⟩
 exact⟨f.trans h.F,h.K,k h.R,k h.H,k h.O,fun x hx=>k (h.D x hx),h.rr,h.hr,hp⟩
theorem row_nl{u:World}{B e s n b0 k0 c:Nat}{a:Option Addr}{xs:List Value}{f f0:Nat->Value}(h:u.ownsRow B e s (.slice a n c) n xs)(hb:Arr u b0 k0 f0)(hf:∀i,i<n*s->xs[i]?=some (f i)):∃b,Nl a c n b/\Arr u b (n*s) f/\n<=c:=by
 rcases h.2 with⟨h',h0⟩|⟨g,cap,cur,h',h1,h2,h3,h4,h5,h6⟩
 ·obtain⟨rfl,_,rfl⟩:=Value.slice.inj h'
  subst h0;exact⟨b0,.inl ⟨rfl,rfl,rfl⟩,⟨hb.1,hb.2.1,fun i hi=>absurd hi (by omega)⟩,Nat.le_refl _⟩
 ·obtain⟨rfl,_,rfl⟩:=Value.slice.inj h'
  exact⟨g,.inr rfl,⟨(h.lt g rfl).2,fun i=>h.frozenAt i,fun i hi=>(h.cellAt i hi).trans (hf i hi)⟩,h3⟩
def hd0:HD:=⟨0,false,.slice none 0 0,[]⟩
def rL(rs:List Int)(i:Nat):Int:=rs.getD i 0
def hL(hs:List HD)(i:Nat):HeapV:=⟨(hs.getD i hd0).base,(hs.getD i hd0).wr,none,(hs.getD i hd0).ds.length,0,fun j=>(hs.getD i hd0).ds.getD j 0⟩
def slA:Value->Option Addr
 |.slice a _ _=>a
 |_=>none
def slC:Value->Nat
 |.slice _ _ c=>c
 |_=>0
def aL(hs:List HD)(i:Nat):Option Addr:=slA (hs.getD i hd0).v
def cL(hs:List HD)(i:Nat):Nat:=slC (hs.getD i hd0).v
def kL(os:List (Int×Int))(i:Nat):Int:=(os.getD i (0,0)).1
def vL(os:List (Int×Int))(i:Nat):Int:=(os.getD i (0,0)).2
theorem map_at(k:IntKind)(rs:List Int)(i:Nat)(hi:i<rs.length):(rs.map (.int k ·))[i]?=some (numF k (fun j=>rs.getD j 0) i):=by
 rw[List.getElem?_map,List.getElem?_eq_getElem hi];simp[numF,List.getD_eq_getElem?_getD,List.getElem?_eq_getElem hi]
theorem hsL_at:∀(hs:List HD),(∀h∈hs,∃a c,h.v=.slice a h.ds.length c)->∀i,i<hs.length*3->(hs.flatMap hdC)[i]?=some (heapF (fun i=>(hL hs i).put (aL hs i) (cL hs i)) i)
 |[],_,i,hi=>by simp at hi
 |x::l,hv,i,hi=>by
  have key:∀j,heapF (fun i=>(hL (x::l) i).put (aL (x::l) i) (cL (x::l) i)) (j+3)=heapF (fun i=>(hL l i).put (aL l i) (cL l i)) j:=fun j=>by
   unfold heapF;rw[show(j+3)%3=j%3 by omega,show(j+3)/3=j/3+1 by omega];rfl
  obtain⟨a,c,ex⟩:=hv x (by simp);rw[List.flatMap_cons];match i,hi with
  |0,_=>rfl
  |1,_=>rfl
  |2,_=>
   show some x.v=some (Value.slice (slA x.v) x.ds.length (slC x.v));rw[ex];rfl
  |j+3,hi=>
   rw[List.getElem?_append_right (by show 3<=j+3;omega),show j+3-(hdC x).length=j by show j+3-3=j;omega,key j];exact hsL_at l (fun h hh=>hv h (by simp[hh])) j (by simp at hi;omega)
theorem os_at:∀(os:List (Int×Int))(i:Nat),i<os.length*2->(os.flatMap obC)[i]?=some (obsF (kL os) (vL os) i)
 |[],i,hi=>by simp at hi
 |x::l,i,hi=>by
  have key:∀j,obsF (kL (x::l)) (vL (x::l)) (j+2)=obsF (kL l) (vL l) j:=fun j=>by
   unfold obsF;rw[show(j+2)%2=j%2 by omega,show(j+2)/2=j/2+1 by omega];rfl
  rw[List.flatMap_cons];match i,hi with
  |0,_=>rfl
  |1,_=>rfl
  |j+2,hi=>
   rw[List.getElem?_append_right (by show 2<=j+2;omega),show j+2-(obC x).length=j by show j+2-2=j;omega,key j];exact os_at l j (by simp at hi;omega)
theorem ML.g{B b0 k0:Nat}{f0:Nat->Value}{ra:Option Addr}{rc:Nat}{fz fc fhz fhc:Bool}{ha:Option Addr}{hcp:Nat}{pc st:Int}{oa:Option Addr}{oc:Nat}{rs:List Int}{hs:List HD}{os:List (Int×Int)}{u:World}(h:ML B ⟨.slice ra rs.length rc,fz,fc,fhz,fhc,.slice ha hs.length hcp,pc,st,.slice oa os.length oc,rs,hs,os⟩ u)(hb:Arr u b0 k0 f0):
 ∃bR bH bO,MachG u ra rc bR rs.length (rL rs) ha hcp bH hs.length (hL hs) (aL hs) (cL hs) oa oc bO os.length (kL os) (vL os):=by
 obtain⟨bR,nR,aR,_⟩:=row_nl (f:=numF .u64 (rL rs)) h.R hb (fun i hi=>map_at .u64 rs i (by simpa using hi));obtain⟨bH,nH,aH,lH⟩:=row_nl (f:=heapF (fun i=>(hL hs i).put (aL hs i) (cL hs i))) h.H hb (fun i hi=>hsL_at hs (fun x hx=>row_slD (h.D x hx)) i hi);obtain⟨bO,nO,aO,_⟩:=row_nl (f:=obsF (kL os) (vL os)) h.O hb (fun i hi=>os_at os i hi);rw[Nat.mul_one]at aR;refine⟨bR,bH,bO,aR,aH,fun i hi hl=>?_,aO,nR,nH,nO,lH⟩;have hx:hs.getD i hd0∈hs:=by
  rw[List.getD_eq_getElem?_getD,List.getElem?_eq_getElem hi];exact List.getElem_mem hi
 have hD:=h.D _ hx;obtain⟨a,c,ev⟩:=row_slD hD;have hl':0<(hs.getD i hd0).ds.length:=hl;rw[ev]at hD;obtain⟨b,nb,ab,_⟩:=row_nl (f:=numF .u8 (fun j=>(hs.getD i hd0).ds.getD j 0)) hD hb (fun j hj=>map_at .u8 _ j (by simpa using hj));rw[Nat.mul_one]at ab;refine⟨b,?_,ab⟩;show slA (hs.getD i hd0).v=_;rw[ev];exact nb.some hl'
theorem ML.range{B:Nat}{m:Md}{u:World}(h:ML B m u):InRange (rL m.rs) m.hs.length (hL m.hs):=by
 refine⟨fun i _=>?_,fun i hi=>?_,fun i hi j hj=>?_⟩
 ·show u64r (m.rs.getD i 0)
  rw[List.getD_eq_getElem?_getD];cases hc:m.rs[i]? with
  |none=>exact⟨Int.le_refl _,by decide⟩
  |some x=>exact h.rr x (List.mem_of_getElem? hc)
 ·have hx:m.hs.getD i hd0∈m.hs:=by
   rw[List.getD_eq_getElem?_getD,List.getElem?_eq_getElem hi];exact List.getElem_mem hi
  exact(h.hr _ hx).1
 ·have hx:m.hs.getD i hd0∈m.hs:=by
   rw[List.getD_eq_getElem?_getD,List.getElem?_eq_getElem hi];exact List.getElem_mem hi
  show 0<=(m.hs.getD i hd0).ds.getD j 0/\_;have hj':j<(m.hs.getD i hd0).ds.length:=hj;have e:(m.hs.getD i hd0).ds.getD j 0∈(m.hs.getD i hd0).ds:=by
   rw[List.getD_eq_getElem?_getD (l:=(m.hs.getD i hd0).ds),List.getElem?_eq_getElem hj'];exact List.getElem_mem hj'
  exact(h.hr _ hx).2.2 _ e
theorem ML.small{B:Nat}{m:Md}{u:World}(h:ML B m u)(h1:m.rs.length<=8)(h2:m.hs.length<=8)(h3:m.os.length<=2):Small m.rs.length m.hs.length (hL m.hs) m.os.length:=by
 refine⟨by omega,by omega,fun i hi=>?_,by omega⟩;have hx:m.hs.getD i hd0∈m.hs:=by
  rw[List.getD_eq_getElem?_getD,List.getElem?_eq_getElem hi];exact List.getElem_mem hi
 have:=(h.hr _ hx).2.1;show(m.hs.getD i hd0).ds.length<=_;omega
theorem MV.Ok.setR{M:MV}(h:M.Ok)(d:Nat){v:Int}(hv:0<=v/\v<=18446744073709551615):(M.setR d v).Ok:=
 ⟨fun i hi=>by
   show 0<=(if i=d then v else M.R i)/\(if i=d then v else M.R i)<=18446744073709551615;split
   ·exact hv
   ·exact h.reg i hi,h.heaps,h.heap,h.dat⟩
theorem MV.Ok.seen{M:MV}(h:M.Ok)(k v:Int):(M.see k v).Ok:=⟨h.reg,h.heaps,h.heap,h.dat⟩
theorem MV.Ok.flagged{M:MV}(h:M.Ok)(r:Int)(k:Bool):(M.flags r k).Ok:=⟨h.reg,h.heaps,h.heap,h.dat⟩
theorem MV.Ok.poke{M:MV}(h:M.Ok)(k j:Nat){u:Int}(hu:0<=u/\u<=255):(M.poke k j u).Ok:=by
 have hl:∀i,((M.poke k j u).Hp i).base=(M.Hp i).base/\((M.poke k j u).Hp i).len=(M.Hp i).len:=fun i=>by
  unfold MV.poke;by_cases e:i=k<;>simp[e]
 refine⟨h.reg,h.heaps,fun i hi=>?_,fun i hi q hq=>?_⟩
 ·rw[(hl i).1,(hl i).2];exact h.heap i hi
 ·rw[(hl i).2]at hq
  have:=h.dat i hi q hq;unfold MV.poke;by_cases e:i=k
  ·by_cases e2:q=j
   ·simp[e,e2];exact hu
   ·simp only[e,if_true,e2,if_false];rw[<-e];exact this
  ·simp only[e,if_false];exact this
theorem MV.Ok.pokeN{M:MV}(h:M.Ok)(k o:Nat)(v:Int):∀n,(M.pokeN k o v n).Ok
 |0=>h
 |n+1=>(MV.Ok.pokeN h k o v n).poke k (o+n) (by omega)
def okO:Outc->Prop
 |.inl (M',_)=>M'.Ok
 |.inr M'=>M'.Ok
theorem memOp_ok{M:MV}(hk:M.Ok)(s:Bool)(wd:Nat)(hw:wd<=8)(A:Int)(d h:Nat)(nx:Int):okO (memOp s wd A d h M nx):=by
 unfold memOp;by_cases h1:M.nH<=h
 ·rw[if_pos h1];exact hk.seen _ _
 ·rw[if_neg h1]
  by_cases h2:(lies (M.Hp h).base A wd (M.Hp h).len&&(!s||(M.Hp h).wr))=true
  ·rw[if_pos h2]
   cases s with
   |true=>exact(hk.seen _ _).pokeN _ _ _ _
   |false=>
    refine(hk.seen 1 A).setR d ?_;have hl:lies (M.Hp h).base A wd (M.Hp h).len=true:=by simp only[Bool.and_eq_true]at h2;exact h2.1
    have hr:=loadV_range (M.Hp h).dat (A-(M.Hp h).base).toNat wd fun j hj=>hk.dat h (by omega) _ (by
     unfold lies at hl;simp only[Bool.and_eq_true,decide_eq_true_eq]at hl;omega)
    refine⟨hr.1,?_⟩;have:(2:Int)^(8*wd)<=2^64:=by
     have hn:(2:Nat)^(8*wd)<=2^64:=Nat.pow_le_pow_right (by decide) (by omega);exact_mod_cast hn
    have h64:(2:Int)^64=18446744073709551616:=by decide
    have:=hr.2;omega
  ·rw[if_neg h2];exact hk.seen _ _
theorem jumpOp_ok{M:MV}(hk:M.Ok)(a b c:Bool)(imm nx:Int):okO (jumpOp a b c imm M nx):=by
 unfold jumpOp;split
 ·split
  ·exact hk.seen _ _
  ·exact hk.seen _ _
 ·exact hk
theorem wadd_range(x y c:Int):0<=wadd x y c/\wadd x y c<=18446744073709551615:=by unfold wadd;omega
theorem wsub_range(x y:Int):0<=wsub x y/\wsub x y<=18446744073709551615:=by
 unfold wsub;omega
theorem ediv_range{x y:Int}(h:0<=x/\x<=18446744073709551615)(hy:0<=y):0<=x/y/\x/y<=18446744073709551615:=
 ⟨Int.ediv_nonneg h.1 hy,Int.le_trans (Int.ediv_le_self _ h.1) h.2⟩
theorem exec_ok{M:MV}(hk:M.Ok)(op d a b h:Nat)(imm nx:Int)(ha:a<8)(hb:b<8):okO (exec op d a b h imm M nx):=by
 have ra:=hk.reg a ha;have rb:=hk.reg b hb;unfold exec;split;all_goals first
  |exact memOp_ok hk _ _ (by decide) _ _ _ _
  |exact jumpOp_ok hk _ _ _ _ _
  |exact hk.setR _ ra
  |exact hk.setR _ (wrap_range _)
  |exact(hk.setR _ (wadd_range _ _ _)).flagged _ _
  |exact(hk.flagged _ _).setR _ (wsub_range _ _)
  |exact hk.flagged _ _
  |exact hk.setR _ (ediv_range ra (Int.le_of_lt (Int.pow_pos (by decide))))
  |exact⟨hk.reg,hk.heaps,hk.heap,hk.dat⟩
  |skip
 ·refine(hk.seen _ _).setR _ ?_
  split
  ·decide
  ·exact ediv_range ra rb.1
 all_goals
  split
  ·first
    |exact(hk.setR _ (wadd_range _ _ _)).flagged _ _
    |(refine hk.setR _ ?_
      split
      ·exact ra
      ·exact rb)
  ·exact hk
theorem q9{u:World}{q:Nat}{v0 v1 v2 v3 v4 v5 v6 v7 v8:Value}{t:TypeId}(h:u.heap[q]?=some (.cells #[v0,v1,v2,v3,v4,v5,v6,v7,v8] t)):u.cell? ⟨q,0,none⟩=some v0/\u.cell? ⟨q,1,none⟩=some v1/\u.cell? ⟨q,2,none⟩=some v2/\u.cell? ⟨q,3,none⟩=some v3/\u.cell? ⟨q,4,none⟩=some v4/\u.cell? ⟨q,5,none⟩=some v5/\u.cell? ⟨q,6,none⟩=some v6/\u.cell? ⟨q,7,none⟩=some v7/\u.cell? ⟨q,8,none⟩=some v8:=
 ⟨hq_cell h 0,hq_cell h 1,hq_cell h 2,hq_cell h 3,hq_cell h 4,hq_cell h 5,hq_cell h 6,hq_cell h 7,hq_cell h 8⟩
end Go.Proofs.YtbahofiiaodpdaaGreat
