import Derived.Test.YtblfmpgdhpbffaaGreatDoorPzLine
import Derived.Test.YtblfmpgdhpbffaaGreatDoorPzBnd
set_option maxHeartbeats 12800000
set_option maxRecDepth 20000
namespace Go.Proofs.YtblfmpgdhpbffaaGreatDoor
open Go.RowKit
def SrcR(B:Nat)(r:Nat×PS)(e:Ending)(w':World):Prop:=
 if r.1=0 then∃(sH sR sP:Sl)(bv:List Value),e=.returned (.agg #[.int .i64 0,.int .i64 r.2.d,.slice sH.a sH.n sH.c,.slice sR.a sR.n sR.c,.slice sP.a sP.n sP.c])/\Rws w' B (srcR [] r.2.hs r.2.rg r.2.ps (.slice sH.a sH.n sH.c) (.slice sR.a sR.n sR.c) (.slice sP.a sP.n sP.c) bv)/\bv.length=r.2.ps.length/\Inv r.2/\Bnd r.2 100001
 else e=.returned (.agg #[.int .i64 (r.1:Int),.int .i64 0,.slice none 0 0,.slice none 0 0,.slice none 0 0])
theorem info_boolZ:(Tryz.prog.info? 4).map (fun i=>(i.zero,i.size,i.bytes))=some (some (.bool false),1,1):=by kernel_rfl
theorem info_valZ:(Tryz.prog.info? 47).map (fun i=>(i.zero,i.size,i.bytes))=some (some (.agg #[.int .i64 0,.bool false,.int .i64 0,.int .i64 0,.int .i64 0,.int .i64 0]),6,48):=by kernel_rfl
theorem l4Num_z(w:World):Calls Tryz.prog 13 #[.bool true,.int .i64 (-1)] w fun e w'=>e=.returned (.agg #[.int .i64 0,.bool true,.int .i64 (-1),.int .i64 0,.int .i64 0,.int .i64 0])/\Below w.heap.size w w':=by
 go_enter Tryz.func13,Tryz.ntmps13;go_wp2;refine bodyPost_ret (v:=.agg #[.int .i64 0,.bool true,.int .i64 (-1),.int .i64 0,.int .i64 0,.int .i64 0]) (by simp[results,Tryz.results13,go_sem]) rfl ⟨rfl,?_⟩;first|exact Below.refl _ _|exact(Below.refl _ _).alloc (Nat.le_refl _) _
structure SX(w0:World)(x pb lb:Nat)(cs:Array Value)(ls:List (List UInt8))(u:World):Prop where
 R:u.heap[x]?=some (.cells #[.int .i64 0,.int .i64 0,.slice none 0 0,.slice none 0 0,.slice none 0 0] 31)
 P:u.heap[pb]?=some (.cells cs 45)
 L:ls≠[]->FA u lb ls
 F:Fm tsM w0.heap.size w0 u
 x0:w0.heap.size<=x
 p0:w0.heap.size<=pb
 xp:x≠pb
theorem SX.fm{w0:World}{x pb lb:Nat}{cs:Array Value}{ls:List (List UInt8)}{u v:World}(h:SX w0 x pb lb cs ls u)(f:Fm tsM w0.heap.size u v):SX w0 x pb lb cs ls v:=
 ⟨f.k _ _ h.R (fun c t fz e=>by have:31=t:=(Obj.cells.inj e).2.1;subst this;decide),f.k _ _ h.P (fun c t fz e=>part_no c t fz _ e),fun hn=>(h.L hn).fm f (by decide),h.F.trans f,h.x0,h.p0,h.xp⟩
theorem SX.below{w0:World}{x pb lb:Nat}{cs:Array Value}{ls:List (List UInt8)}{u v:World}(h:SX w0 x pb lb cs ls u)(b:Below u.heap.size u v):SX w0 x pb lb cs ls v:=h.fm (Fm.of_below b h.F.b.size)
theorem SX.setP{w0:World}{x pb lb:Nat}{cs:Array Value}{ls:List (List UInt8)}{u:World}(h:SX w0 x pb lb cs ls u)(i:Nat)(v:Value):SX w0 x pb lb (cs.setIfInBounds i v) ls (u.setCell ⟨pb,i,none⟩ v):=by
 refine⟨(Below.heap_setCell u ⟨pb,i,none⟩ v x h.xp).trans h.R,heap_setZ h.P i v,fun hn=>?_,h.F.setNew h.p0 h.p0 v,h.x0,h.p0,h.xp⟩;obtain⟨cur,h1,h2⟩:=(h.L hn).c;refine⟨cur,(Below.heap_setCell u ⟨pb,i,none⟩ v lb (fun e=>?_)).trans h1,h2⟩;have e':lb=pb:=e;rw[e',h.P]at h1;have:=(Obj.cells.inj (Option.some.inj h1)).2.1;exact absurd this (by decide)
theorem SX.put8{w0:World}{x pb lb:Nat}{a0 a1 a2 a3 a4 a5 a6 a7:Value}{ls:List (List UInt8)}{u:World}{v0 v1 v2 v3 v4 v5 v6 v7:Value}(h:SX w0 x pb lb #[a0,a1,a2,a3,a4,a5,a6,a7] ls u):SX w0 x pb lb #[v0,v1,v2,v3,v4,v5,v6,v7] ls (put8 u pb v0 v1 v2 v3 v4 v5 v6 v7):=by
 have h0:SX w0 x pb lb #[v0,a1,a2,a3,a4,a5,a6,a7] ls (u.setCell ⟨pb,0,none⟩ v0):=h.setP 0 v0;have h1:SX w0 x pb lb #[v0,v1,a2,a3,a4,a5,a6,a7] ls ((u.setCell ⟨pb,0,none⟩ v0).setCell ⟨pb,1,none⟩ v1):=h0.setP 1 v1;have h2:SX w0 x pb lb #[v0,v1,v2,a3,a4,a5,a6,a7] ls (((u.setCell ⟨pb,0,none⟩ v0).setCell ⟨pb,1,none⟩ v1).setCell ⟨pb,2,none⟩ v2):=h1.setP 2 v2;have h3:SX w0 x pb lb #[v0,v1,v2,v3,a4,a5,a6,a7] ls ((((u.setCell ⟨pb,0,none⟩ v0).setCell ⟨pb,1,none⟩ v1).setCell ⟨pb,2,none⟩ v2).setCell ⟨pb,3,none⟩ v3):=h2.setP 3 v3;have h4:SX w0 x pb lb #[v0,v1,v2,v3,v4,a5,a6,a7] ls (((((u.setCell ⟨pb,0,none⟩ v0).setCell ⟨pb,1,none⟩ v1).setCell ⟨pb,2,none⟩ v2).setCell ⟨pb,3,none⟩ v3).setCell ⟨pb,4,none⟩ v4):=h3.setP 4 v4;have h5:SX w0 x pb lb #[v0,v1,v2,v3,v4,v5,a6,a7] ls ((((((u.setCell ⟨pb,0,none⟩ v0).setCell ⟨pb,1,none⟩ v1).setCell ⟨pb,2,none⟩ v2).setCell ⟨pb,3,none⟩ v3).setCell ⟨pb,4,none⟩ v4).setCell ⟨pb,5,none⟩ v5):=h4.setP 5 v5;have h6:SX w0 x pb lb #[v0,v1,v2,v3,v4,v5,v6,a7] ls (((((((u.setCell ⟨pb,0,none⟩ v0).setCell ⟨pb,1,none⟩ v1).setCell ⟨pb,2,none⟩ v2).setCell ⟨pb,3,none⟩ v3).setCell ⟨pb,4,none⟩ v4).setCell ⟨pb,5,none⟩ v5).setCell ⟨pb,6,none⟩ v6):=h5.setP 6 v6;have h7:SX w0 x pb lb #[v0,v1,v2,v3,v4,v5,v6,v7] ls ((((((((u.setCell ⟨pb,0,none⟩ v0).setCell ⟨pb,1,none⟩ v1).setCell ⟨pb,2,none⟩ v2).setCell ⟨pb,3,none⟩ v3).setCell ⟨pb,4,none⟩ v4).setCell ⟨pb,5,none⟩ v5).setCell ⟨pb,6,none⟩ v6).setCell ⟨pb,7,none⟩ v7):=h6.setP 7 v7;exact h7
theorem setW_other{g q:Nat}(h:q≠g):∀(vs:List Value)(i:Nat)(w:World),(setW w g i vs).heap[q]?=w.heap[q]?
 |[],_,_=>rfl
 |v::vs,i,w=>(setW_other h vs (i+1) _).trans (Below.heap_setCell w ⟨g,i,none⟩ v q h)
theorem Bnd.mono{S:PS}{k m:Nat}(h:Bnd S k)(hm:k<=m):Bnd S m:=
 ⟨by have:=h.ps;omega,by have:=h.bd;omega,by have:=h.op;omega,fun o ho=>by have:=h.th o ho;omega,h.d⟩
theorem MS0.addN{w w5:World}{B:Nat}{S:PS}{sH sR sP sN sO:Sl}{bv:List Value}{b:Bool}{a5:Option Addr}{c5:Nat}(h:MS0 w B S sH sR sP sN sO bv)(hg:w.grownBy w5 (Value.slice sN.a sN.n sN.c).ownBlock)(ho:w5.ownsRow B 4 1 (.slice a5 (S.gv.length+1) c5) (S.gv.length+1) (S.gv.map .bool++[.bool b]))(ha:(Value.slice a5 (S.gv.length+1) c5).ownBlock=(Value.slice sN.a sN.n sN.c).ownBlock∨∃k,(Value.slice a5 (S.gv.length+1) c5).ownBlock=some k/\w.heap.size<=k):
 MS0 w5 B {S with gv:=S.gv++[b]} sH sR sP ⟨a5,S.gv.length+1,c5⟩ sO bv:=by
 have q:=h.R.grow (j:=0) (r:=⟨4,1,.slice sN.a sN.n sN.c,S.gv.length,S.gv.map .bool⟩) (r':=⟨4,1,.slice a5 (S.gv.length+1) c5,(S.gv++[b]).length,(S.gv++[b]).map .bool⟩) rfl hg (by unfold Rw.own;rw[List.length_append,List.map_append];exact ho) ha;exact⟨q,h.L⟩
theorem MS0.addR{w w5:World}{B:Nat}{S:PS}{sH sR sP sN sO:Sl}{bv:List Value}{v:VV}{a5:Option Addr}{c5:Nat}(h:MS0 w B S sH sR sP sN sO bv)(hg:w.grownBy w5 (Value.slice sR.a sR.n sR.c).ownBlock)(ho:w5.ownsRow B 47 6 (.slice a5 (S.rg.length+1) c5) (S.rg.length+1) (S.rg.flatMap vlL++vlL v))(ha:(Value.slice a5 (S.rg.length+1) c5).ownBlock=(Value.slice sR.a sR.n sR.c).ownBlock∨∃k,(Value.slice a5 (S.rg.length+1) c5).ownBlock=some k/\w.heap.size<=k):
 MS0 w5 B {S with rg:=S.rg++[v]} sH ⟨a5,S.rg.length+1,c5⟩ sP sN sO bv:=by
 have q:=h.R.grow (j:=3) (r:=⟨47,6,.slice sR.a sR.n sR.c,S.rg.length,S.rg.flatMap vlL⟩) (r':=⟨47,6,.slice a5 (S.rg.length+1) c5,(S.rg++[v]).length,(S.rg++[v]).flatMap vlL⟩) rfl hg (by unfold Rw.own;rw[List.length_append,List.flatMap_append];simpa using ho) ha;exact⟨q,h.L⟩
theorem MS0.setX{w0 u:World}{B x pb lb:Nat}{cs:Array Value}{ls:List (List UInt8)}{S:PS}{sH sR sP sN sO:Sl}{bv:List Value}(h:MS0 u B S sH sR sP sN sO bv)(p:SX w0 x pb lb cs ls u)(i:Nat)(v:Value):MS0 (u.setCell ⟨pb,i,none⟩ v) B S sH sR sP sN sO bv:=
 ⟨h.R.typ (ts:=tsM) (srcR_typ (exM_typ S _ _) (by decide) (by decide) (by decide) (by decide)) (fun q c t f hq ht=>Below.heap_setCell u ⟨pb,i,none⟩ v q (fun e=>by subst e;rw[p.P]at hq;exact part_no c t f _ (Option.some.inj hq) ht)),h.L⟩
theorem split_bnd':∀(t cur:List UInt8),(∀l∈(splitL t cur).1++(if(splitL t cur).2.isEmpty=true then[]else[(splitL t cur).2]),l.length<=cur.length+t.length)/\((splitL t cur).1++(if(splitL t cur).2.isEmpty=true then[]else[(splitL t cur).2])).length<=(if cur=[]then 0 else 1)+t.length
 |[],cur=>by
  show(∀l∈[]++(if cur.isEmpty=true then[]else[cur]),l.length<=cur.length+0)/\([]++(if cur.isEmpty=true then[]else[cur])).length<=_;cases cur with
  |nil=>simp
  |cons a l=>simp
 |c::t,cur=>by
  by_cases hc:c.toNat=10
  ·have e:splitL (c::t) cur=(cur::(splitL t []).1,(splitL t []).2):=by show(if _ then _ else _)=_;rw[if_pos hc]
   rw[e];obtain⟨h1,h2⟩:=split_bnd' t [];refine⟨fun l hl=>?_,?_⟩
   ·rcases List.mem_cons.1 (show l∈cur::((splitL t []).1++_)from hl)with rfl|hl
    ·simp
    ·have:=h1 l hl;simp at this⊢;omega
   ·show(cur::((splitL t []).1++_)).length<=_
    rw[if_pos rfl]at h2;simp only[List.length_cons]at h2⊢;omega
  ·have e:splitL (c::t) cur=splitL t (cur++[c]):=by show(if _ then _ else _)=_;rw[if_neg hc]
   rw[e];obtain⟨h1,h2⟩:=split_bnd' t (cur++[c]);refine⟨fun l hl=>?_,?_⟩
   ·have:=h1 l hl;simp at this⊢;omega
   ·rw[if_neg (show¬cur++[c]=[]by simp)]at h2
    simp only[List.length_cons];omega
theorem split_bnd(t:List UInt8):(∀l∈(splitL t []).1++(if(splitL t []).2.isEmpty=true then[]else[(splitL t []).2]),l.length<=t.length)/\((splitL t []).1++(if(splitL t []).2.isEmpty=true then[]else[(splitL t []).2])).length<=t.length:=by
 obtain⟨h1,h2⟩:=split_bnd' t [];exact⟨fun l hl=>by have:=h1 l hl;simpa using this,by rw[if_pos rfl]at h2;omega⟩
theorem specSrcP_any(b off cap:Nat)(t:List UInt8)(w:World)(ht:(t.length:Int)<=1048576)(hat:At w b off t.length (numF .u8 (bF t))):
 Calls Tryz.prog 4 #[.slice (some ⟨b,off,none⟩) t.length cap] w fun e w'=>(if 100000<t.length then e=.returned (.agg #[.int .i64 (-1),.int .i64 0,.slice none 0 0,.slice none 0 0,.slice none 0 0])else SrcR w.heap.size (psT t ps0 1) e w')/\Below w.heap.size w w':=by
 obtain⟨Post,hPost⟩:∃P:Ending->World->Prop,P=fun e w'=>(if 100000<t.length then e=.returned (.agg #[.int .i64 (-1),.int .i64 0,.slice none 0 0,.slice none 0 0,.slice none 0 0])else SrcR w.heap.size (psT t ps0 1) e w')/\Below w.heap.size w w':=⟨_,rfl⟩
 rw[<-hPost]
 have HPO:Hid (Post=fun e w'=>(if 100000<t.length then e=.returned (.agg #[.int .i64 (-1),.int .i64 0,.slice none 0 0,.slice none 0 0,.slice none 0 0])else SrcR w.heap.size (psT t ps0 1) e w')/\Below w.heap.size w w'):=hPost
 have HA:Hid (At w b off t.length (numF .u8 (bF t))):=hat
 clear hPost hat
 go_enter Tryz.func4,Tryz.ntmps4
 go_upto_region 1 with fail
 obtain⟨u,hu,hbu,hr⟩:∃y,w.alloc (.cells #[.int .i64 0,.int .i64 0,.slice none 0 0,.slice none 0 0,.slice none 0 0] 31)=y/\Below w.heap.size w y/\y.heap[w.heap.size]?=some (.cells #[.int .i64 0,.int .i64 0,.slice none 0 0,.slice none 0 0,.slice none 0 0] 31):=⟨_,rfl,(Below.refl _ _).alloc (Nat.le_refl _) _,heap_alloc_newB _ _⟩
 rw[hu]
 have HRB:Hid (u.heap[w.heap.size]?=some (.cells #[.int .i64 0,.int .i64 0,.slice none 0 0,.slice none 0 0,.slice none 0 0] 31)):=hr
 have BU:Hid (Below w.heap.size w u):=hbu
 obtain⟨x,hx⟩:∃y,w.heap.size=y:=⟨_,rfl⟩
 rw[hx]at hr⊢
 have HX:Hid (w.heap.size=x):=hx
 obtain⟨z0,z1,z2,z3,z4⟩:=hp5 hr
 have zf:=hp_frz hr
 have hxu:x<u.heap.size:=(Array.getElem?_eq_some_iff.1 hr).1
 clear hu hbu hr hx
 by_cases hlong:100000<t.length
 ·have e1:(100000:Int)<(t.length:Int):=by omega
  go_wp2
  refine bodyPost_ret (v:=.agg #[.int .i64 (-1),.int .i64 0,.slice none 0 0,.slice none 0 0,.slice none 0 0]) (by simp[results,Tryz.results4,go_sem,z0,z1,z2,z3,z4]) rfl ?_
  rw[HPO.out]
  refine⟨by rw[if_pos hlong],?_⟩
  have q:Fm [] w.heap.size w u:=Fm.of_below BU.out (Nat.le_refl _)
  rw[<-HX.out]
  exact(((((q.setNew (a:=⟨w.heap.size,0,none⟩) (Nat.le_refl _) (Nat.le_refl _) _).setNew (a:=⟨w.heap.size,1,none⟩) (Nat.le_refl _) (Nat.le_refl _) _).setNew (a:=⟨w.heap.size,2,none⟩) (Nat.le_refl _) (Nat.le_refl _) _).setNew (a:=⟨w.heap.size,3,none⟩) (Nat.le_refl _) (Nat.le_refl _) _).setNew (a:=⟨w.heap.size,4,none⟩) (Nat.le_refl _) (Nat.le_refl _) _).b
 have e1:¬(100000:Int)<(t.length:Int):=by omega
 have HPS:Hid (∀e w',SrcR w.heap.size (psT t ps0 1) e w'->Below w.heap.size w w'->Post e w'):=(fun e w' h1 h2=>by rw[HPO.out];exact⟨by rw[if_neg hlong];exact h1,h2⟩:∀e w',SrcR w.heap.size (psT t ps0 1) e w'->Below w.heap.size w w'->Post e w')
 have hbz:b<w.heap.size:=HA.out.lt
 go_wp2_with fail
 refine(lines_any b off cap t u (by omega) (HA.out.below BU.out hbz)).mono ?_
 rintro e u2⟨⟨lv,rfl,hrow⟩,hb2⟩
 obtain⟨cl,hcl⟩:∃y,(splitL t []).1=y:=⟨_,rfl⟩
 obtain⟨rs,hrs⟩:∃y,(splitL t []).2=y:=⟨_,rfl⟩
 have HSP:Hid (psT t ps0 1=psLs cl (!rs.isEmpty) ps0 1):=(by have:=psT_split t [] ps0 1 (by simp);rw[List.nil_append]at this;rw[this,hcl,hrs]:psT t ps0 1=psLs cl (!rs.isEmpty) ps0 1)
 rw[hcl,hrs]at hrow
 rw[hrs]
 obtain⟨ls,hls⟩:∃y,cl++(if rs.isEmpty=true then[]else[rs])=y:=⟨_,rfl⟩
 rw[hls]at hrow
 have HLS:Hid (cl++(if rs.isEmpty=true then[]else[rs])=ls):=hls
 have HLB:Hid ((∀l∈ls,l.length<=t.length)/\ls.length<=t.length):=(by rw[<-hls,<-hcl,<-hrs];exact split_bnd t:(∀l∈ls,l.length<=t.length)/\ls.length<=t.length)
 obtain⟨aL,cL,hlv⟩:=row_sliceZ hrow
 subst hlv
 obtain⟨lb,hlb⟩:∃lb,ls≠[]->aL=some ⟨lb,0,none⟩/\FA u2 lb ls:=by
  by_cases hn:ls=[]
  ·exact⟨0,fun h=>absurd hn h⟩
  ·obtain⟨g,c,e,_,_,_⟩:=row_someZ hrow (Nat.pos_of_ne_zero (fun e=>hn (List.length_eq_zero_iff.1 e)))
   injection e with q1 q2 q3
   refine⟨g,fun _=>⟨q1,?_⟩⟩
   subst q1
   exact fa_row hrow
 have HLA:Hid (ls≠[]->aL=some ⟨lb,0,none⟩):=fun h=>(hlb h).1
 have B2:Hid (Below w.heap.size w u2):=BU.out.trans (hb2.mono BU.out.size)
 have HR2:Hid (u2.heap[x]?=some (.cells #[.int .i64 0,.int .i64 0,.slice none 0 0,.slice none 0 0,.slice none 0 0] 31)):=(by have h:=HRB.out;rw[HX.out]at h;exact(hb2.block x (Array.getElem?_eq_some_iff.1 h).1).trans h:u2.heap[x]?=some (.cells #[.int .i64 0,.int .i64 0,.slice none 0 0,.slice none 0 0,.slice none 0 0] 31))
 have FA2:Hid (ls≠[]->FA u2 lb ls):=fun h=>(hlb h).2
 clear hrow hb2 hls hlb hcl hrs z0 z1 z2 z3 z4 zf BU HRB HA
 go_upto_region 5 with fail
 obtain⟨u3,hu3,sx3⟩:∃y,u2.alloc (.cells #[.int .i64 0,.slice none 0 0,.slice none 0 0,.slice none 0 0,.int .i64 0,.slice none 0 0,.slice none 0 0,.bool false] 45)=y/\SX w x u2.heap.size lb #[.int .i64 0,.slice none 0 0,.slice none 0 0,.slice none 0 0,.int .i64 0,.slice none 0 0,.slice none 0 0,.bool false] ls y:=by
  have hb:Below u2.heap.size u2 (u2.alloc (.cells #[.int .i64 0,.slice none 0 0,.slice none 0 0,.slice none 0 0,.int .i64 0,.slice none 0 0,.slice none 0 0,.bool false] 45)):=(Below.refl _ _).alloc (Nat.le_refl _) _
  have hxl:x<u2.heap.size:=(Array.getElem?_eq_some_iff.1 HR2.out).1
  exact⟨_,rfl,⟨(hb.block x hxl).trans HR2.out,heap_alloc_newB _ _,fun hn=>(FA2.out hn).below hb,Fm.of_below (B2.out.trans (hb.mono B2.out.size)) (Nat.le_refl _),Nat.le_of_eq HX.out,B2.out.size,by omega⟩⟩
 rw[hu3]
 obtain⟨pb,hpb⟩:∃y,u2.heap.size=y:=⟨_,rfl⟩
 rw[hpb]at sx3⊢
 have SX3:Hid (SX w x pb lb #[.int .i64 0,.slice none 0 0,.slice none 0 0,.slice none 0 0,.int .i64 0,.slice none 0 0,.slice none 0 0,.bool false] ls u3):=sx3
 obtain⟨B,hBe⟩:∃y,w.heap.size=y:=⟨_,rfl⟩
 have HBE:Hid (w.heap.size=B):=hBe
 have M3:Hid (MS0 u3 B {ps0 with rg:=[],gv:=[]} ⟨none,0,0⟩ ⟨none,0,0⟩ ⟨none,0,0⟩ ⟨none,0,0⟩ ⟨none,0,0⟩ []):=(⟨⟨fun j r hr=>by
  have:j<5:=(List.getElem?_eq_some_iff.1 hr).1
  have hj:j=0∨j=1∨j=2∨j=3∨j=4:=by omega
  rcases hj with rfl|rfl|rfl|rfl|rfl<;>(obtain rfl:=Option.some.inj hr;exact World.ownsRow_nil _ _ _ _),fun i j a b _ ha _ k hk=>by
  have:i<5:=(List.getElem?_eq_some_iff.1 ha).1
  have hj:i=0∨i=1∨i=2∨i=3∨i=4:=by omega
  rcases hj with rfl|rfl|rfl|rfl|rfl<;>(obtain rfl:=Option.some.inj ha;cases hk)⟩,rfl⟩:MS0 u3 B {ps0 with rg:=[],gv:=[]} ⟨none,0,0⟩ ⟨none,0,0⟩ ⟨none,0,0⟩ ⟨none,0,0⟩ ⟨none,0,0⟩ [])
 obtain⟨iB,gS,gS0,gS1,gS2⟩:=info4 info_boolZ
 have HIB:Hid (_/\_/\_/\_):=⟨gS,gS0,gS1,gS2⟩
 clear gS gS0 gS1 gS2
 obtain⟨iV,gS,gS0,gS1,gS2⟩:=info4 info_valZ
 have HIV:Hid (_/\_/\_/\_):=⟨gS,gS0,gS1,gS2⟩
 clear gS gS0 gS1 gS2 hu3 sx3 hpb hBe B2 HR2 FA2
 go_wp2_with fail
 go_loopw [6](fun iv wr=>∃(k:Nat)(sR sN:Sl),k<=8/\iv=.int .i64 (k:Int)/\SX w x pb lb #[.int .i64 0,.slice none 0 0,.slice sR.a sR.n sR.c,.slice none 0 0,.int .i64 0,.slice sN.a sN.n sN.c,.slice none 0 0,.bool false] ls wr/\MS0 wr B {ps0 with rg:=List.replicate k vv0,gv:=List.replicate k false} ⟨none,0,0⟩ sR ⟨none,0,0⟩ sN ⟨none,0,0⟩ [])(fun iv _=>8-(intOf iv).toNat)
 case atStart=>exact⟨0,⟨none,0,0⟩,⟨none,0,0⟩,by omega,rfl,SX3.out,M3.out⟩
 case round=>
  clear SX3 M3
  obtain⟨k,sR,sN,hk,rfl,hsx,hms⟩:=hrel
  have X:Hid (SX w x pb lb #[.int .i64 0,.slice none 0 0,.slice sR.a sR.n sR.c,.slice none 0 0,.int .i64 0,.slice sN.a sN.n sN.c,.slice none 0 0,.bool false] ls wr):=hsx
  obtain⟨GG,hGG⟩:∃y,List.replicate k false=y:=⟨_,rfl⟩
  obtain⟨RG,hRG⟩:∃y,List.replicate k vv0=y:=⟨_,rfl⟩
  have hGl:GG.length<=8:=by rw[<-hGG];simp;omega
  have hRl:RG.length<=8:=by rw[<-hRG];simp;omega
  rw[hGG,hRG]at hms
  have HGG:Hid (List.replicate k false=GG/\List.replicate k vv0=RG):=⟨hGG,hRG⟩
  have M:Hid (MS0 wr B {ps0 with rg:=RG,gv:=GG} ⟨none,0,0⟩ sR ⟨none,0,0⟩ sN ⟨none,0,0⟩ []):=hms
  have hBr:B<=wr.heap.size:=by have:=HBE.out;have:=hsx.F.b.size;omega
  clear hsx hms hGG hRG
  by_cases hlt:k<8
  ·have hl1:(k:Int)<8:=by omega
   obtain⟨c0,c1,c2,c3,c4,c5,c6,c7⟩:=hp8 X.out.P
   have cf:=hp_frz X.out.P
   have OA:Hid ((wr.alloc (.cells #[.bool false] 4)).ownsRow B 4 1 (.slice sN.a sN.n sN.c) GG.length (GG.map .bool)):=row_belowZ (M.out.R.own 0 _ rfl) (fun j hj=>((Below.refl wr.heap.size wr).alloc (Nat.le_refl _) _).block j ((M.out.R.own 0 _ rfl).lt j hj).2)
   have HCL:Hid (∀j u,[Value.bool false][j]?=some u->(wr.alloc (.cells #[.bool false] 4)).cell? ((⟨wr.heap.size,0,none⟩:Addr).add j)=some u):=cells_newZ wr #[.bool false] 4
   have hBa:B<=(wr.alloc (.cells #[.bool false] 4)).heap.size:=by simp;omega
   go_wp2_with(first|(at_builtin;refine wpList_append_own_at _ rfl _ _ 42 rfl B 4 iB _ 1 1 Tryz.underlying42 HIB.out.1 HIB.out.2.1 HIB.out.2.2.1 HIB.out.2.2.2 rfl (by decide) (.slice sN.a sN.n sN.c) GG.length _ rfl OA.out ⟨wr.heap.size,0,none⟩ 1 1 [.bool false] rfl rfl HCL.out ?c2 ?c3 ?c4 hBa ?_))
   case c2=>simp[Value.oneCell']
   case c3=>unfold maxLen;omega
   case c4=>omega
   intro v' w5 hown hgrow _ hat
   obtain⟨ua,hua,hba,hza⟩:∃y,wr.alloc (.cells #[.bool false] 4)=y/\Below wr.heap.size wr y/\y.heap.size=wr.heap.size+1:=⟨_,rfl,(Below.refl _ _).alloc (Nat.le_refl _) _,by simp⟩
   rw[hua]at hgrow OA
   obtain⟨aN5,cN5,hv5⟩:=row_sliceZ hown
   subst hv5
   have MA:=M.out.below hba
   have f5:Fm tsM w.heap.size ua w5:=by rw[HBE.out];exact Fm.of_grow OA.out (Nat.le_refl _) hgrow (by omega) (by decide)
   have M5:Hid (MS0 w5 B {ps0 with rg:=RG,gv:=GG++[false]} ⟨none,0,0⟩ sR ⟨none,0,0⟩ ⟨aN5,GG.length+1,cN5⟩ ⟨none,0,0⟩ []):=(by
    have q:=MA.addN (b:=false) hgrow hown (hat.elim .inl (fun e=>.inr ⟨_,e,by omega⟩))
    exact q:MS0 w5 B {ps0 with rg:=RG,gv:=GG++[false]} ⟨none,0,0⟩ sR ⟨none,0,0⟩ ⟨aN5,GG.length+1,cN5⟩ ⟨none,0,0⟩ [])
   have X5:Hid (SX w x pb lb #[.int .i64 0,.slice none 0 0,.slice sR.a sR.n sR.c,.slice none 0 0,.int .i64 0,.slice sN.a sN.n sN.c,.slice none 0 0,.bool false] ls w5):=(X.out.below hba).fm f5
   clear hown hgrow hat OA HCL hBa hua hba hza MA f5 c0 c1 c2 c3 c4 c5 c6 c7 cf X M
   obtain⟨c0,c1,c2,c3,c4,c5,c6,c7⟩:=hp8 X5.out.P
   have cf:=hp_frz X5.out.P
   go_upto_region 9 with fail
   have X6:Hid (SX w x pb lb #[.int .i64 0,.slice none 0 0,.slice sR.a sR.n sR.c,.slice none 0 0,.int .i64 0,.slice aN5 (GG.length+1) cN5,.slice none 0 0,.bool false] ls (w5.setCell ⟨pb,5,none⟩ (.slice aN5 (GG.length+1) cN5))):=X5.out.setP 5 _
   have M6:Hid (MS0 (w5.setCell ⟨pb,5,none⟩ (.slice aN5 (GG.length+1) cN5)) B {ps0 with rg:=RG,gv:=GG++[false]} ⟨none,0,0⟩ sR ⟨none,0,0⟩ ⟨aN5,GG.length+1,cN5⟩ ⟨none,0,0⟩ []):=M5.out.setX X5.out 5 _
   clear X5 M5 c0 c1 c2 c3 c4 c5 c6 c7 cf
   generalize w5.setCell ⟨pb,5,none⟩ (.slice aN5 (GG.length+1) cN5)=u6 at X6 M6⊢
   have r0:∀w':World,(w'.heap[pb]?=some (.cells #[.int .i64 0,.slice none 0 0,.slice sR.a sR.n sR.c,.slice none 0 0,.int .i64 0,.slice aN5 (GG.length+1) cN5,.slice none 0 0,.bool false] 45))->w'.cell? ⟨pb,2,none⟩=some (.slice sR.a sR.n sR.c):=fun w' h=>hp_cell h 2
   have X7:Hid (SX w x pb lb #[.int .i64 0,.slice none 0 0,.slice sR.a sR.n sR.c,.slice none 0 0,.int .i64 0,.slice aN5 (GG.length+1) cN5,.slice none 0 0,.bool false] ls u6.drew):=X6.out.below (Below.refl _ _).drew
   have M7:Hid (MS0 u6.drew B {ps0 with rg:=RG,gv:=GG++[false]} ⟨none,0,0⟩ sR ⟨none,0,0⟩ ⟨aN5,GG.length+1,cN5⟩ ⟨none,0,0⟩ []):=M6.out.below (Below.refl _ _).drew
   refine wp_region_L (T:=fun w'=>w'.heap[pb]?=some (.cells #[.int .i64 0,.slice none 0 0,.slice sR.a sR.n sR.c,.slice none 0 0,.int .i64 0,.slice aN5 (GG.length+1) cN5,.slice none 0 0,.bool false] 45)) (s:=10) (by kernel_rfl) X7.out.P (fun hHeld=>?_)
   clear X6 M6
   generalize u6.drew=t0 at hHeld X7 M7⊢
   refine wpAnyL_tk 0 ?k1v rfl ?k1y ?k1r
   case k1y=>(intro w hSw;(try dsimp only at hSw);go_simp;try with_reducible rfl)
   try go_frame
   refine wpAnyL_tk 1 ?k2v rfl ?k2y ?k2r
   case k2y=>(intro w hSw;(try dsimp only at hSw);go_simp;try with_reducible rfl)
   try go_frame
   refine wpAnyL_tk 2 ?k3v rfl ?k3y ?k3r
   case k3y=>(intro w hSw;(try dsimp only at hSw);go_simp;try with_reducible rfl)
   try go_frame
   refine wpAnyL_tk 3 ?k4v rfl ?k4y ?k4r
   case k4y=>(intro w hSw;(try dsimp only at hSw);go_simp;try with_reducible rfl)
   try go_frame
   refine wpAnyL_call (i:=4) rfl (by kernel_rfl) (fun KK hK=>?_)
   go_simp
   refine(l4Num_z t0).mono ?_
   rintro e t1⟨rfl,hb1⟩
   have X8:Hid (SX w x pb lb #[.int .i64 0,.slice none 0 0,.slice sR.a sR.n sR.c,.slice none 0 0,.int .i64 0,.slice aN5 (GG.length+1) cN5,.slice none 0 0,.bool false] ls t1):=X7.out.below hb1
   have M8:Hid (MS0 t1 B {ps0 with rg:=RG,gv:=GG++[false]} ⟨none,0,0⟩ sR ⟨none,0,0⟩ ⟨aN5,GG.length+1,cN5⟩ ⟨none,0,0⟩ []):=M7.out.below hb1
   clear hb1
   refine hK.out _ _ X8.out.P (fun hHeld1=>?_)
   clear hK KK X7 M7
   refine wpAnyL_call (i:=5) rfl (by kernel_rfl) (fun KK hK=>?_)
   go_simp
   obtain⟨t2,ht2,hbA,hnw⟩:∃y,t1.alloc (.cells #[.int .i64 0,.bool true,.int .i64 (-1),.int .i64 0,.int .i64 0,.int .i64 0] 47)=y/\Below t1.heap.size t1 y/\(∀j u,(vlL vv0)[j]?=some u->y.cell? ((⟨t1.heap.size,0,none⟩:Addr).add j)=some u):=⟨_,rfl,(Below.refl _ _).alloc (Nat.le_refl _) _,cells_newZ _ _ _⟩
   rw[ht2]
   have X9:Hid (SX w x pb lb #[.int .i64 0,.slice none 0 0,.slice sR.a sR.n sR.c,.slice none 0 0,.int .i64 0,.slice aN5 (GG.length+1) cN5,.slice none 0 0,.bool false] ls t2):=X8.out.below hbA
   have M9:Hid (MS0 t2 B {ps0 with rg:=RG,gv:=GG++[false]} ⟨none,0,0⟩ sR ⟨none,0,0⟩ ⟨aN5,GG.length+1,cN5⟩ ⟨none,0,0⟩ []):=M8.out.below hbA
   have hB9:B<=t2.heap.size:=by have:=HBE.out;have:=X9.out.F.b.size;omega
   have NW:Hid _:=hnw
   clear ht2 hbA hnw X8 M8
   refine hK.out _ _ X9.out.P (fun hHeld2=>?_)
   clear hK KK
   try go_frame
   have OH:Hid (t2.ownsRow B 47 6 (.slice sR.a sR.n sR.c) RG.length (RG.flatMap vlL)):=M9.out.R.own 3 _ rfl
   obtain⟨v',w5b,hrun,hown,hgrow,_,hat⟩:=run_append_own_at (P:=Tryz.prog) t2 B 24 24 47 iV _ 6 48 Tryz.underlying24 HIV.out.1 HIV.out.2.1 HIV.out.2.2.1 HIV.out.2.2.2 rfl (by decide) (.slice sR.a sR.n sR.c) RG.length (RG.flatMap vlL) OH.out ⟨t1.heap.size,0,none⟩ 1 1 (vlL vv0) rfl NW.out (by simp[vlL,vv0,Value.oneCell']) (by unfold maxLen;omega) (by omega) hB9
   have F5:Fm tsM w.heap.size t2 w5b:=by rw[HBE.out];exact Fm.of_grow OH.out (Nat.le_refl _) hgrow hB9 (by decide)
   have X10:Hid (SX w x pb lb #[.int .i64 0,.slice none 0 0,.slice sR.a sR.n sR.c,.slice none 0 0,.int .i64 0,.slice aN5 (GG.length+1) cN5,.slice none 0 0,.bool false] ls w5b):=X9.out.fm F5
   refine wpAnyL_appendZ (.tmp 30) (.tmp 32) (i:=6) rfl (by kernel_rfl) (by kernel_rfl) rfl rfl rfl hrun X10.out.P (fun hHeld5=>?_)
   try go_frame
   refine wpAnyL_tkT 7 ?k5v rfl ?k5y ?k5r
   case k5y=>(intro w hSw;(try dsimp only at hSw);go_simp;try with_reducible rfl)
   try go_frame
   refine wpAnyL_tkT 8 ?k6v rfl ?k6y ?k6r
   case k6y=>(intro w hSw;(try dsimp only at hSw);go_simp;try with_reducible rfl)
   try go_frame
   refine wpAnyL_tk 9 ?k7v rfl ?k7y ?k7r
   case k7y=>(intro w hSw;(try dsimp only at hSw);go_simp;try with_reducible rfl)
   try go_frame
   obtain⟨aR5,cR5,hv6⟩:=row_sliceZ hown
   subst hv6
   have M10:Hid (MS0 w5b B {ps0 with rg:=RG++[vv0],gv:=GG++[false]} ⟨none,0,0⟩ ⟨aR5,RG.length+1,cR5⟩ ⟨none,0,0⟩ ⟨aN5,GG.length+1,cN5⟩ ⟨none,0,0⟩ []):=(by
    have q:=M9.out.addR (v:=vv0) hgrow hown (hat.elim .inl (fun e=>.inr ⟨_,e,Nat.le_refl _⟩))
    exact q:MS0 w5b B {ps0 with rg:=RG++[vv0],gv:=GG++[false]} ⟨none,0,0⟩ ⟨aR5,RG.length+1,cR5⟩ ⟨none,0,0⟩ ⟨aN5,GG.length+1,cN5⟩ ⟨none,0,0⟩ [])
   have q2:=hp_cell X10.out.P 2
   simp only[List.getElem?_toArray,List.getElem?_cons_zero,List.getElem?_cons_succ]at q2
   have qf:=hp_frz X10.out.P
   have X11:Hid (SX w x pb lb #[.int .i64 0,.slice none 0 0,.slice aR5 (RG.length+1) cR5,.slice none 0 0,.int .i64 0,.slice aN5 (GG.length+1) cN5,.slice none 0 0,.bool false] ls (w5b.setCell ⟨pb,2,none⟩ (.slice aR5 (RG.length+1) cR5))):=X10.out.setP 2 _
   have M11:Hid (MS0 (w5b.setCell ⟨pb,2,none⟩ (.slice aR5 (RG.length+1) cR5)) B {ps0 with rg:=RG++[vv0],gv:=GG++[false]} ⟨none,0,0⟩ ⟨aR5,RG.length+1,cR5⟩ ⟨none,0,0⟩ ⟨aN5,GG.length+1,cN5⟩ ⟨none,0,0⟩ []):=M10.out.setX X10.out 2 _
   clear hown hgrow hat hrun OH F5 NW hHeld hHeld1 hHeld2 hHeld5 r0 X9 M9 X10 M10
   refine wpAnyL_store rfl (by kernel_rfl) (by kernel_rfl) (fun KK hK=>?_)
   go_simp
   refine hK.out _ _ ?_
   clear hK KK q2 qf
   generalize w5b.setCell ⟨pb,2,none⟩ (.slice aR5 (RG.length+1) cR5)=u9 at X11 M11⊢
   go_wp2_with fail
   go_roundw
   case rel=>exact⟨k+1,⟨aR5,RG.length+1,cR5⟩,⟨aN5,GG.length+1,cN5⟩,by omega,by go_num,X11.out,by rw[List.replicate_succ',List.replicate_succ',HGG.out.1,HGG.out.2];exact M11.out⟩
   case measure=>simp[intOf];omega
  ·obtain rfl:k=8:=by omega
   have hl1:¬((8:Nat):Int)<8:=by omega
   have M':MS0 wr B {ps0 with rg:=List.replicate 8 vv0,gv:=List.replicate 8 false} ⟨none,0,0⟩ sR ⟨none,0,0⟩ sN ⟨none,0,0⟩ []:=by have h:=M.out;rw[<-HGG.out.1,<-HGG.out.2]at h;exact h
   have M8:Hid (MS wr B ps0 ⟨none,0,0⟩ sR ⟨none,0,0⟩ sN ⟨none,0,0⟩ []):=(⟨M'.R,M'.L,Inv.zero⟩:MS wr B ps0 ⟨none,0,0⟩ sR ⟨none,0,0⟩ sN ⟨none,0,0⟩ [])
   clear M M' HIB HIV HGG hGl hRl
   have H0:Hid (SX w x pb lb #[.int .i64 0,.slice none 0 0,.slice sR.a sR.n sR.c,.slice none 0 0,.int .i64 0,.slice sN.a sN.n sN.c,.slice none 0 0,.bool false] ls wr):=X
   go_wp2_with fail
   go_loopw [7](fun iv wr=>∃(i:Nat)(S:PS)(sH sR sP sN sO:Sl)(bv:List Value),i<=ls.length/\iv=.int .i64 (i:Int)/\SX w x pb lb #[.int .i64 S.d,.slice sH.a sH.n sH.c,.slice sR.a sR.n sR.c,.slice sP.a sP.n sP.c,.int .i64 (S.st:Int),.slice sN.a sN.n sN.c,.slice sO.a sO.n sO.c,.bool false] ls wr/\MS wr B S sH sR sP sN sO bv/\Bnd S i/\i<=cl.length/\psLs cl (!rs.isEmpty) ps0 1=psLs (cl.drop i) (!rs.isEmpty) S (i+1))(fun iv _=>ls.length-(intOf iv).toNat)
   case atStart=>exact⟨0,ps0,⟨none,0,0⟩,sR,⟨none,0,0⟩,sN,⟨none,0,0⟩,[],Nat.zero_le _,rfl,H0.out,M8.out,Bnd.zero,Nat.zero_le _,rfl⟩
   case round=>
   clear H0 M8 X
   rename_i wr0 _ _
   obtain⟨i,S,sH,sR,sP,sN,sO,bv,hi,rfl,hsx,hms,hbd,hic,hps⟩:=hrel
   have X:Hid (SX w x pb lb #[.int .i64 S.d,.slice sH.a sH.n sH.c,.slice sR.a sR.n sR.c,.slice sP.a sP.n sP.c,.int .i64 (S.st:Int),.slice sN.a sN.n sN.c,.slice sO.a sO.n sO.c,.bool false] ls wr):=hsx
   have M:Hid (MS wr B S sH sR sP sN sO bv):=hms
   have HBD:Hid (Bnd S i):=hbd
   have HP:Hid (psLs cl (!rs.isEmpty) ps0 1=psLs (cl.drop i) (!rs.isEmpty) S (i+1)):=hps
   have hBr:B<=wr.heap.size:=by have:=HBE.out;have:=hsx.F.b.size;omega
   have hl5:ls.length<=100000:=by have:=HLB.out.2;omega
   clear hsx hms hbd hps
   by_cases hlt:i<ls.length
   ·have hl1:(i:Int)<(ls.length:Int):=by omega
    obtain rfl:=HLA.out (fun e=>by rw[e]at hlt;simp at hlt)
    obtain⟨wh,hwh⟩:∃y,rs.isEmpty=y:=⟨_,rfl⟩
    rw[hwh]at HP HSP HLS⊢
    have HWH:Hid (rs.isEmpty=wh):=hwh
    clear hwh
    have hlen:(fd ls i).length<=100000:=by
     have hmem:fd ls i∈ls:=by unfold fd;rw[List.getD_eq_getElem?_getD,List.getElem?_eq_getElem hlt];simp
     have:=HLB.out.1 _ hmem
     omega
    have HCL:Hid ((i<cl.length/\cl.drop i=fd ls i::cl.drop (i+1))∨(i=cl.length/\wh=false/\cl.drop i=[])):=(by
     by_cases hc:i<cl.length
     ·refine .inl ⟨hc,?_⟩
      have e:fd ls i=cl[i]:=by
       unfold fd
       rw[<-HLS.out,List.getD_eq_getElem?_getD,List.getElem?_append_left hc,List.getElem?_eq_getElem hc]
       rfl
      rw[e,List.drop_eq_getElem_cons hc]
     ·have e:i=cl.length:=by omega
      refine .inr ⟨e,?_,List.drop_eq_nil_of_le (by omega)⟩
      cases wh with
      |false=>rfl
      |true=>
       have h:=HLS.out
       rw[if_pos rfl,List.append_nil]at h
       rw[<-h]at hlt
       omega:(i<cl.length/\cl.drop i=fd ls i::cl.drop (i+1))∨(i=cl.length/\wh=false/\cl.drop i=[]))
    have HLL:Hid (ls.length=cl.length+(if wh=true then 0 else 1)):=(by rw[<-HLS.out,List.length_append];cases wh<;>rfl:ls.length=cl.length+(if wh=true then 0 else 1))
    obtain⟨l,hle⟩:∃y,fd ls i=y:=⟨_,rfl⟩
    rw[hle]at hlen HCL
    have HLE:Hid (fd ls i=l):=hle
    clear hle
    go_upto_region 13 with fail
    have r0:∀w':World,(w'.heap[pb]?=some (.cells #[.int .i64 S.d,.slice sH.a sH.n sH.c,.slice sR.a sR.n sR.c,.slice sP.a sP.n sP.c,.int .i64 (S.st:Int),.slice sN.a sN.n sN.c,.slice sO.a sO.n sO.c,.bool false] 45)/\FA w' lb ls)->w'.cell? ⟨pb,0,none⟩=some (.int .i64 S.d):=fun w' h=>hp_cell h.1 0
    have r1:∀w':World,(w'.heap[pb]?=some (.cells #[.int .i64 S.d,.slice sH.a sH.n sH.c,.slice sR.a sR.n sR.c,.slice sP.a sP.n sP.c,.int .i64 (S.st:Int),.slice sN.a sN.n sN.c,.slice sO.a sO.n sO.c,.bool false] 45)/\FA w' lb ls)->w'.cell? ⟨pb,1,none⟩=some (.slice sH.a sH.n sH.c):=fun w' h=>hp_cell h.1 1
    have r2:∀w':World,(w'.heap[pb]?=some (.cells #[.int .i64 S.d,.slice sH.a sH.n sH.c,.slice sR.a sR.n sR.c,.slice sP.a sP.n sP.c,.int .i64 (S.st:Int),.slice sN.a sN.n sN.c,.slice sO.a sO.n sO.c,.bool false] 45)/\FA w' lb ls)->w'.cell? ⟨pb,2,none⟩=some (.slice sR.a sR.n sR.c):=fun w' h=>hp_cell h.1 2
    have r3:∀w':World,(w'.heap[pb]?=some (.cells #[.int .i64 S.d,.slice sH.a sH.n sH.c,.slice sR.a sR.n sR.c,.slice sP.a sP.n sP.c,.int .i64 (S.st:Int),.slice sN.a sN.n sN.c,.slice sO.a sO.n sO.c,.bool false] 45)/\FA w' lb ls)->w'.cell? ⟨pb,3,none⟩=some (.slice sP.a sP.n sP.c):=fun w' h=>hp_cell h.1 3
    have r4:∀w':World,(w'.heap[pb]?=some (.cells #[.int .i64 S.d,.slice sH.a sH.n sH.c,.slice sR.a sR.n sR.c,.slice sP.a sP.n sP.c,.int .i64 (S.st:Int),.slice sN.a sN.n sN.c,.slice sO.a sO.n sO.c,.bool false] 45)/\FA w' lb ls)->w'.cell? ⟨pb,4,none⟩=some (.int .i64 (S.st:Int)):=fun w' h=>hp_cell h.1 4
    have r5:∀w':World,(w'.heap[pb]?=some (.cells #[.int .i64 S.d,.slice sH.a sH.n sH.c,.slice sR.a sR.n sR.c,.slice sP.a sP.n sP.c,.int .i64 (S.st:Int),.slice sN.a sN.n sN.c,.slice sO.a sO.n sO.c,.bool false] 45)/\FA w' lb ls)->w'.cell? ⟨pb,5,none⟩=some (.slice sN.a sN.n sN.c):=fun w' h=>hp_cell h.1 5
    have r6:∀w':World,(w'.heap[pb]?=some (.cells #[.int .i64 S.d,.slice sH.a sH.n sH.c,.slice sR.a sR.n sR.c,.slice sP.a sP.n sP.c,.int .i64 (S.st:Int),.slice sN.a sN.n sN.c,.slice sO.a sO.n sO.c,.bool false] 45)/\FA w' lb ls)->w'.cell? ⟨pb,6,none⟩=some (.slice sO.a sO.n sO.c):=fun w' h=>hp_cell h.1 6
    have r7:∀w':World,(w'.heap[pb]?=some (.cells #[.int .i64 S.d,.slice sH.a sH.n sH.c,.slice sR.a sR.n sR.c,.slice sP.a sP.n sP.c,.int .i64 (S.st:Int),.slice sN.a sN.n sN.c,.slice sO.a sO.n sO.c,.bool false] 45)/\FA w' lb ls)->w'.cell? ⟨pb,7,none⟩=some (.bool false):=fun w' h=>hp_cell h.1 7
    have r8:∀w':World,(w'.heap[pb]?=some (.cells #[.int .i64 S.d,.slice sH.a sH.n sH.c,.slice sR.a sR.n sR.c,.slice sP.a sP.n sP.c,.int .i64 (S.st:Int),.slice sN.a sN.n sN.c,.slice sO.a sO.n sO.c,.bool false] 45)/\FA w' lb ls)->w'.cell? ⟨lb,i,none⟩=some (.string (stB l)):=fun w' h=>(h.2.cell i hlt).trans (by rw[HLE.out])
    have X1:Hid (SX w x pb lb #[.int .i64 S.d,.slice sH.a sH.n sH.c,.slice sR.a sR.n sR.c,.slice sP.a sP.n sP.c,.int .i64 (S.st:Int),.slice sN.a sN.n sN.c,.slice sO.a sO.n sO.c,.bool false] ls wr.drew):=X.out.below (Below.refl _ _).drew
    have M1:Hid (MS wr.drew B S sH sR sP sN sO bv):=M.out.below (Below.refl _ _).drew
    have hB1:B<=wr.drew.heap.size:=hBr
    have hn0:ls≠[]:=fun e=>by rw[e]at hlt;simp at hlt
    have HN0:Hid (ls≠[]):=hn0
    refine wp_region_L (T:=fun w'=>w'.heap[pb]?=some (.cells #[.int .i64 S.d,.slice sH.a sH.n sH.c,.slice sR.a sR.n sR.c,.slice sP.a sP.n sP.c,.int .i64 (S.st:Int),.slice sN.a sN.n sN.c,.slice sO.a sO.n sO.c,.bool false] 45)/\FA w' lb ls) (s:=6) (by kernel_rfl) ⟨X1.out.P,X1.out.L hn0⟩ (fun hHeld=>?_)
    clear X M hn0
    generalize wr.drew=t0 at hHeld X1 M1 hB1⊢
    refine wpAnyL_tk 0 ?k8v rfl ?k8y ?k8r
    case k8y=>(intro w hSw;(try dsimp only at hSw);go_simp;try with_reducible rfl)
    try go_frame
    refine wpAnyL_tk 1 ?k9v rfl ?k9y ?k9r
    case k9y=>(intro w hSw;(try dsimp only at hSw);go_simp;try with_reducible rfl)
    try go_frame
    refine wpAnyL_tk 2 ?k10v rfl ?k10y ?k10r
    case k10y=>(intro w hSw;(try dsimp only at hSw);go_simp;try with_reducible rfl)
    try go_frame
    refine wpAnyL_tk 3 ?k11v rfl ?k11y ?k11r
    case k11y=>(intro w hSw;(try dsimp only at hSw);go_simp;try with_reducible rfl)
    try go_frame
    refine wpAnyL_tk 4 ?k12v rfl ?k12y ?k12r
    case k12y=>(intro w hSw;(try dsimp only at hSw);go_simp;try with_reducible rfl)
    try go_frame
    refine wpAnyL_call (i:=5) rfl (by kernel_rfl) (fun KK hK=>?_)
    go_simp
    refine(l6Line_any B S sH sR sP sN sO bv l t0 hB1 M1.out (by have:=HBD.out.bd;omega) (by have:=HBD.out.ps;omega) (by have:=HBD.out.op;omega) (fun o ho=>by have:=HBD.out.th o ho;omega) (by omega) HBD.out.d).mono ?_
    rintro e u9⟨hf9,he⟩
    have X9:Hid (SX w x pb lb #[.int .i64 S.d,.slice sH.a sH.n sH.c,.slice sR.a sR.n sR.c,.slice sP.a sP.n sP.c,.int .i64 (S.st:Int),.slice sN.a sN.n sN.c,.slice sO.a sO.n sO.c,.bool false] ls u9):=X1.out.fm (by rw[HBE.out];exact hf9)
    have T9:u9.heap[pb]?=some (.cells #[.int .i64 S.d,.slice sH.a sH.n sH.c,.slice sR.a sR.n sR.c,.slice sP.a sP.n sP.c,.int .i64 (S.st:Int),.slice sN.a sN.n sN.c,.slice sO.a sO.n sO.c,.bool false] 45)/\FA u9 lb ls:=⟨X9.out.P,X9.out.L HN0.out⟩
    have HI:Hid (Inv S):=M1.out.I
    clear hf9
    cases hlr:linS S l with
    |none=>
     rw[hlr]at he
     obtain⟨d9,st9,qH,qR,qP,qN,qO,rfl⟩:=he
     have HN:Hid (psLs cl (!wh) ps0 1=(i+1,S)):=(by
      rw[HP.out]
      rcases HCL.out with⟨_,e⟩|⟨_,e1,e2⟩
      ·rw[e];unfold psLs;rw[hlr]
      ·rw[e2,e1];rfl:psLs cl (!wh) ps0 1=(i+1,S))
     refine hK.out _ _ T9 (fun hHeld9=>?_)
     clear hK KK hHeld hHeld9 T9 r0 r1 r2 r3 r4 r5 r6 r7 r8 hlr X1 M1
     obtain⟨y0,y1,y2,y3,y4,y5,y6,y7⟩:=hp8 X9.out.P
     have yf:=hp_frz X9.out.P
     refine wpAnyL_store rfl (by kernel_rfl) (by kernel_rfl) (fun KK hK=>?_)
     go_simp
     refine hK.out _ _ ?_
     clear hK KK
     obtain⟨u10,hu10,x10⟩:∃z,put8 u9 pb (.int .i64 d9) (.slice qH.a qH.n qH.c) (.slice qR.a qR.n qR.c) (.slice qP.a qP.n qP.c) (.int .i64 st9) (.slice qN.a qN.n qN.c) (.slice qO.a qO.n qO.c) (.bool true)=z/\SX w x pb lb #[.int .i64 d9,.slice qH.a qH.n qH.c,.slice qR.a qR.n qR.c,.slice qP.a qP.n qP.c,.int .i64 st9,.slice qN.a qN.n qN.c,.slice qO.a qO.n qO.c,.bool true] ls z:=⟨_,rfl,X9.out.put8⟩
     have X10:Hid (SX w x pb lb #[.int .i64 d9,.slice qH.a qH.n qH.c,.slice qR.a qR.n qR.c,.slice qP.a qP.n qP.c,.int .i64 st9,.slice qN.a qN.n qN.c,.slice qO.a qO.n qO.c,.bool true] ls u10):=x10
     unfold put8 at hu10
     rw[hu10]
     clear hu10 x10 y0 y1 y2 y3 y4 y5 y6 y7 yf
     have y7:=hp_cell X10.out.P 7
     simp only[List.getElem?_toArray,List.getElem?_cons_zero,List.getElem?_cons_succ]at y7
     obtain⟨z0,z1,z2,z3,z4⟩:=hp5 X10.out.R
     have zf:=hp_frz X10.out.R
     go_wp2
     refine bodyPost_ret (v:=.agg #[.int .i64 ((i:Int)+1),.int .i64 0,.slice none 0 0,.slice none 0 0,.slice none 0 0]) (by simp[results,Tryz.results4,go_sem,z0,z1,z2,z3,z4]) rfl ?_
     refine HPS.out _ _ ?_ ?_
     ·unfold SrcR
      rw[HSP.out,HN.out]
      rw[if_neg (by simp)]
      exact congrArg (fun n:Int=>Ending.returned (.agg #[.int .i64 n,.int .i64 0,.slice none 0 0,.slice none 0 0,.slice none 0 0])) (by simp)
     ·exact(((((X10.out.F.setNew (a:=⟨x,0,none⟩) X10.out.x0 X10.out.x0 _).setNew (a:=⟨x,1,none⟩) X10.out.x0 X10.out.x0 _).setNew (a:=⟨x,2,none⟩) X10.out.x0 X10.out.x0 _).setNew (a:=⟨x,3,none⟩) X10.out.x0 X10.out.x0 _).setNew (a:=⟨x,4,none⟩) X10.out.x0 X10.out.x0 _).b
    |some S'=>
     rw[hlr]at he
     obtain⟨qH,qR,qP,qN,qO,bq,rfl,hmq⟩:=he
     have M9:Hid (MS u9 B S' qH qR qP qN qO bq):=hmq
     have HB2:Hid (Bnd S' (i+1)):=HBD.out.line HI.out hlr
     have HLR:Hid (linS S l=some S'):=hlr
     refine hK.out _ _ T9 (fun hHeld9=>?_)
     clear hK KK hHeld hHeld9 T9 r0 r1 r2 r3 r4 r5 r6 r7 r8 hlr X1 M1 hmq
     obtain⟨y0,y1,y2,y3,y4,y5,y6,y7⟩:=hp8 X9.out.P
     have yf:=hp_frz X9.out.P
     refine wpAnyL_store rfl (by kernel_rfl) (by kernel_rfl) (fun KK hK=>?_)
     go_simp
     refine hK.out _ _ ?_
     clear hK KK
     obtain⟨u10,hu10,x10,m10⟩:∃z,put8 u9 pb (.int .i64 S'.d) (.slice qH.a qH.n qH.c) (.slice qR.a qR.n qR.c) (.slice qP.a qP.n qP.c) (.int .i64 (S'.st:Int)) (.slice qN.a qN.n qN.c) (.slice qO.a qO.n qO.c) (.bool false)=z/\SX w x pb lb #[.int .i64 S'.d,.slice qH.a qH.n qH.c,.slice qR.a qR.n qR.c,.slice qP.a qP.n qP.c,.int .i64 (S'.st:Int),.slice qN.a qN.n qN.c,.slice qO.a qO.n qO.c,.bool false] ls z/\MS z B S' qH qR qP qN qO bq:=⟨_,rfl,X9.out.put8,M9.out.other X9.out.P (fun c t f e=>part_no c t f _ e) (fun q hq=>put8_other u9 pb q _ _ _ _ _ _ _ _ hq)⟩
     have X10:Hid (SX w x pb lb #[.int .i64 S'.d,.slice qH.a qH.n qH.c,.slice qR.a qR.n qR.c,.slice qP.a qP.n qP.c,.int .i64 (S'.st:Int),.slice qN.a qN.n qN.c,.slice qO.a qO.n qO.c,.bool false] ls u10):=x10
     have M10:Hid (MS u10 B S' qH qR qP qN qO bq):=m10
     unfold put8 at hu10
     rw[hu10]
     clear hu10 x10 m10 y0 y1 y2 y3 y4 y5 y6 y7 yf X9 M9
     have y7:=hp_cell X10.out.P 7
     simp only[List.getElem?_toArray,List.getElem?_cons_zero,List.getElem?_cons_succ]at y7
     by_cases hend:wh=false/\i=cl.length
     ·obtain⟨rfl,hie⟩:=hend
      have e5:((i:Int)==(ls.length:Int)-1)=true:=by rw[beq_iff_eq];have:=HLL.out;simp at this;omega
      have HN:Hid (psLs cl (!false) ps0 1=(i+1,S)):=(by
       rw[HP.out]
       rcases HCL.out with⟨h1,_⟩|⟨_,e1,e2⟩
       ·omega
       ·rw[e2];rfl:psLs cl (!false) ps0 1=(i+1,S))
      clear hie
      obtain⟨z0,z1,z2,z3,z4⟩:=hp5 X10.out.R
      have zf:=hp_frz X10.out.R
      go_wp2
      refine bodyPost_ret (v:=.agg #[.int .i64 ((i:Int)+1),.int .i64 0,.slice none 0 0,.slice none 0 0,.slice none 0 0]) (by simp[results,Tryz.results4,go_sem,z0,z1,z2,z3,z4]) rfl ?_
      refine HPS.out _ _ ?_ ?_
      ·unfold SrcR
       rw[HSP.out,HN.out]
       rw[if_neg (by simp)]
       exact congrArg (fun n:Int=>Ending.returned (.agg #[.int .i64 n,.int .i64 0,.slice none 0 0,.slice none 0 0,.slice none 0 0])) (by simp)
      ·exact(((((X10.out.F.setNew (a:=⟨x,0,none⟩) X10.out.x0 X10.out.x0 _).setNew (a:=⟨x,1,none⟩) X10.out.x0 X10.out.x0 _).setNew (a:=⟨x,2,none⟩) X10.out.x0 X10.out.x0 _).setNew (a:=⟨x,3,none⟩) X10.out.x0 X10.out.x0 _).setNew (a:=⟨x,4,none⟩) X10.out.x0 X10.out.x0 _).b
     ·have hic2:i+1<=cl.length:=by
       rcases HCL.out with⟨h1,_⟩|⟨h1,h2,_⟩
       ·omega
       ·exact absurd ⟨h2,h1⟩ hend
      have HP2:Hid (psLs cl (!wh) ps0 1=psLs (cl.drop (i+1)) (!wh) S' (i+1+1)):=(by
       rw[HP.out]
       rcases HCL.out with⟨_,e⟩|⟨h1,h2,_⟩
       ·rw[e]
        conv=>lhs;unfold psLs
        rw[HLR.out]
       ·exact absurd ⟨h2,h1⟩ hend:psLs cl (!wh) ps0 1=psLs (cl.drop (i+1)) (!wh) S' (i+1+1))
      cases wh with
      |true=>
       clear hend
       go_wp2_with fail
       go_roundw
       case rel=>exact⟨i+1,S',qH,qR,qP,qN,qO,bq,by omega,by go_num,X10.out,M10.out,HB2.out,hic2,HP2.out⟩
       case measure=>simp[intOf];omega
      |false=>
       have e5:((i:Int)==(ls.length:Int)-1)=false:=by rw[beq_eq_false_iff_ne];have:=HLL.out;simp at this;omega
       clear hend
       go_wp2_with fail
       go_roundw
       case rel=>exact⟨i+1,S',qH,qR,qP,qN,qO,bq,by omega,by go_num,X10.out,M10.out,HB2.out,hic2,HP2.out⟩
       case measure=>simp[intOf];omega
   ·have hie:i=ls.length:=by omega
    have hl1:¬(i:Int)<(ls.length:Int):=by omega
    have hwe:rs.isEmpty=true:=by
     cases hq:rs.isEmpty with
     |true=>rfl
     |false=>
      have h:=HLS.out
      rw[hq]at h
      have:ls.length=cl.length+1:=by rw[<-h];simp
      omega
    have hcl:cl.drop i=[]:=List.drop_eq_nil_of_le (by
     have h:=HLS.out
     rw[if_pos hwe,List.append_nil]at h
     rw[h];omega)
    have HN:Hid (psLs cl (!rs.isEmpty) ps0 1=(if S.st=3/\S.op=[]then 0 else i+1,S)):=(by rw[HP.out,hcl,hwe];rfl:psLs cl (!rs.isEmpty) ps0 1=(if S.st=3/\S.op=[]then 0 else i+1,S))
    have HNO:Hid (sO.n=S.op.length):=row_n (M.out.R.own 1 _ rfl)
    have HIE:Hid ((i:Int)=(ls.length:Int)):=(by omega:(i:Int)=(ls.length:Int))
    clear hie hwe hcl
    obtain⟨c0,c1,c2,c3,c4,c5,c6,c7⟩:=hp8 X.out.P
    by_cases h3:S.st=3
    rotate_left
    ·have e3:((S.st:Int) !=3)=true:=by rw[bne_iff_ne];omega
     have HN2:Hid (psLs cl (!rs.isEmpty) ps0 1=(i+1,S)):=(by rw[HN.out,if_neg (fun h=>h3 h.1)]:psLs cl (!rs.isEmpty) ps0 1=(i+1,S))
     clear h3
     obtain⟨z0,z1,z2,z3,z4⟩:=hp5 X.out.R
     have zf:=hp_frz X.out.R
     go_wp2
     refine bodyPost_ret (v:=.agg #[.int .i64 ((ls.length:Int)+1),.int .i64 0,.slice none 0 0,.slice none 0 0,.slice none 0 0]) (by simp[results,Tryz.results4,go_sem,z0,z1,z2,z3,z4]) rfl ?_
     refine HPS.out _ _ ?_ ?_
     ·unfold SrcR
      rw[HSP.out,HN2.out]
      rw[if_neg (by simp)]
      exact congrArg (fun n:Int=>Ending.returned (.agg #[.int .i64 n,.int .i64 0,.slice none 0 0,.slice none 0 0,.slice none 0 0])) (by have:=HIE.out;simp;omega)
     ·exact(((((X.out.F.setNew (a:=⟨x,0,none⟩) X.out.x0 X.out.x0 _).setNew (a:=⟨x,1,none⟩) X.out.x0 X.out.x0 _).setNew (a:=⟨x,2,none⟩) X.out.x0 X.out.x0 _).setNew (a:=⟨x,3,none⟩) X.out.x0 X.out.x0 _).setNew (a:=⟨x,4,none⟩) X.out.x0 X.out.x0 _).b
    have e3:((S.st:Int) !=3)=false:=by rw[bne_eq_false_iff_eq];omega
    by_cases h0:S.op=[]
    rotate_left
    ·have e4:(0:Int)<(sO.n:Int):=by
      have h1:S.op.length≠0:=fun e=>h0 (List.length_eq_zero_iff.1 e)
      have:=HNO.out
      omega
     have HN2:Hid (psLs cl (!rs.isEmpty) ps0 1=(i+1,S)):=(by rw[HN.out,if_neg (fun h=>h0 h.2)]:psLs cl (!rs.isEmpty) ps0 1=(i+1,S))
     clear h3 h0
     obtain⟨z0,z1,z2,z3,z4⟩:=hp5 X.out.R
     have zf:=hp_frz X.out.R
     go_wp2
     refine bodyPost_ret (v:=.agg #[.int .i64 ((ls.length:Int)+1),.int .i64 0,.slice none 0 0,.slice none 0 0,.slice none 0 0]) (by simp[results,Tryz.results4,go_sem,z0,z1,z2,z3,z4]) rfl ?_
     refine HPS.out _ _ ?_ ?_
     ·unfold SrcR
      rw[HSP.out,HN2.out]
      rw[if_neg (by simp)]
      exact congrArg (fun n:Int=>Ending.returned (.agg #[.int .i64 n,.int .i64 0,.slice none 0 0,.slice none 0 0,.slice none 0 0])) (by have:=HIE.out;simp;omega)
     ·exact(((((X.out.F.setNew (a:=⟨x,0,none⟩) X.out.x0 X.out.x0 _).setNew (a:=⟨x,1,none⟩) X.out.x0 X.out.x0 _).setNew (a:=⟨x,2,none⟩) X.out.x0 X.out.x0 _).setNew (a:=⟨x,3,none⟩) X.out.x0 X.out.x0 _).setNew (a:=⟨x,4,none⟩) X.out.x0 X.out.x0 _).b
    have e4:¬(0:Int)<(sO.n:Int):=by have:=HNO.out;rw[h0]at this;simp at this;omega
    have HN2:Hid (psLs cl (!rs.isEmpty) ps0 1=(0,S)):=(by rw[HN.out,if_pos ⟨h3,h0⟩]:psLs cl (!rs.isEmpty) ps0 1=(0,S))
    clear h3 h0
    obtain⟨z0,z1,z2,z3,z4⟩:=hp5 X.out.R
    have zf:=hp_frz X.out.R
    go_wp2
    refine bodyPost_ret (v:=.agg #[.int .i64 0,.int .i64 S.d,.slice sH.a sH.n sH.c,.slice sR.a sR.n sR.c,.slice sP.a sP.n sP.c]) (by simp[results,Tryz.results4,go_sem,z0,z1,z2,z3,z4]) rfl ?_
    refine HPS.out _ _ ?_ ?_
    ·unfold SrcR
     rw[HSP.out,HN2.out,if_pos rfl]
     have q:=M.out.R.typ (ts:=tsM) (w':=setW wr x 0 [.int .i64 0,.int .i64 S.d,.slice sH.a sH.n sH.c,.slice sR.a sR.n sR.c,.slice sP.a sP.n sP.c]) M.out.typ (fun q c t f hq ht=>setW_other (fun e=>by subst e;rw[X.out.R]at hq;have:31=t:=(Obj.cells.inj (Option.some.inj hq)).2.1;subst this;exact absurd ht (by decide)) _ _ _)
     have q2:=q.drop 2
     rw[<-HBE.out]at q2
     exact⟨sH,sR,sP,bv,rfl,q2,M.out.L,M.out.I,(HBD.out.mono (by omega))⟩
    ·exact(((((X.out.F.setNew (a:=⟨x,0,none⟩) X.out.x0 X.out.x0 _).setNew (a:=⟨x,1,none⟩) X.out.x0 X.out.x0 _).setNew (a:=⟨x,2,none⟩) X.out.x0 X.out.x0 _).setNew (a:=⟨x,3,none⟩) X.out.x0 X.out.x0 _).setNew (a:=⟨x,4,none⟩) X.out.x0 X.out.x0 _).b
end Go.Proofs.YtblfmpgdhpbffaaGreatDoor
