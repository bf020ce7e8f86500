import Derived.Test.YtbahofiiaodpdaaGreatOfFtOk
import Derived.Test.YtbahofiiaodpdaaGreatOfFtStep
import Derived.Test.YtbahofiiaodpdaaGreatOfTransSpS
import Derived.Deep.DeepCutAuto
import Derived.Test.YtbahofiiaodpdaaGreatOfFu6b
set_option maxHeartbeats 8000000
set_option maxRecDepth 20000
namespace Go.Proofs.YtbahofiiaodpdaaGreat
open Go.RowKit Go.Deep
def baseL(hs:List HD)(k:Nat):Int:=(hs.getD k hd0).base
theorem l4DrawReg_any(p:Nat)(ao:Option Addr)(n cap:Nat)(v:VV)(ha:Option Addr)(hcp B:Nat)(hs:List HD)(w:World)(hv:GV v (hs.length:Int))(hc:Cur w p ao n cap)(hH:w.ownsRow B 79 3 (.slice ha hs.length hcp) hs.length (hs.flatMap hdC))(hB:p<B)(hl:hs.length<=8):
 Calls Tryz.prog 72 #[.pointer (some ⟨p,0,none⟩),.agg #[.int .i64 v.k,.bool v.s,.int .i64 v.m,.int .i64 v.h,.int .i64 v.lo,.int .i64 v.hi],.slice ha hs.length hcp] w fun e w'=>∃x:Int,e=.returned (.int .u64 x)/\u64r x/\HoldV (baseL hs) v x/\Fw p w w'/\Cur w' p ao n cap:=by
 have HC:Hid (Cur w p ao n cap):=hc;have HV:Hid (GV v (hs.length:Int)):=hv;have HH:Hid (w.ownsRow B 79 3 (.slice ha hs.length hcp) hs.length (hs.flatMap hdC)):=hH;have lp:=hc.lt;clear hc hv hH;go_enter Tryz.func72,Tryz.ntmps72;go_upto_region 1 with fail;obtain⟨u,hu,bu,eu⟩:∃y,w.alloc (.cells #[.int .i64 v.k,.bool v.s,.int .i64 v.m,.int .i64 v.h,.int .i64 v.lo,.int .i64 v.hi] 62)=y/\Below w.heap.size w y/\Cl y w.heap.size [.int .i64 v.k,.bool v.s,.int .i64 v.m,.int .i64 v.h,.int .i64 v.lo,.int .i64 v.hi]:=⟨_,rfl,(Below.refl _ _).alloc (Nat.le_refl _) _,Cl.new⟩
 rw[hu];have F0:Hid (Fw p w u):=.of_below bu;have C0:Hid (Cur u p ao n cap):=HC.out.below bu;have E0:Hid (Cl u w.heap.size [.int .i64 v.k,.bool v.s,.int .i64 v.m,.int .i64 v.h,.int .i64 v.lo,.int .i64 v.hi]):=eu;clear hu bu eu;go_wp2_with fail;refine(l1Word_any p ao n cap _ C0.out).mono ?_;rintro e u1⟨x,rfl,hxr,f,c⟩;have F1:Hid (Fw p w u1):=F0.out.trans f;have C1:Hid (Cur u1 p ao n cap):=c;have E1:Hid (Cl u1 w.heap.size [.int .i64 v.k,.bool v.s,.int .i64 v.m,.int .i64 v.h,.int .i64 v.lo,.int .i64 v.hi]):=f.cl E0.out (by omega);obtain⟨x0,x1⟩:=hxr;clear f c F0 C0 E0 HC;obtain⟨c0,c1,c2,c3,c4,c5⟩:=cl6 E1.out;have cz:=E1.out.1;by_cases k1:v.k=1
 rotate_left
 ·have hk:v.k=0/\ -1<=v.m/\v.m<=1099511627776:=by rcases HV.out with q|q;exact⟨q.1,q.2.1,q.2.2.1⟩;exact absurd q.1 k1
  have HK:Hid (v.k=0):=hk.1;have m1:=hk.2.1;have m2:=hk.2.2;have ek:(v.k==1)=false:=by simp[k1]
  clear k1 hk;by_cases m0:0<=v.m
  ·have em:decide (0<=v.m)=true:=by simp[m0]
   go_wp2_with fail;go_ret;have q1:=Int.emod_nonneg x (show v.m+1≠0 by omega);have q2:=Int.emod_lt_of_pos x (show 0<v.m+1 by omega);exact⟨_,rfl,⟨by omega,by omega⟩,Or.inl ⟨HK.out,Or.inr (by omega)⟩,F1.out,C1.out⟩
  ·have em:decide (0<=v.m)=false:=by simp;omega
   go_wp2_with fail;go_ret;exact⟨_,rfl,⟨by omega,by omega⟩,Or.inl ⟨HK.out,Or.inl (by omega)⟩,F1.out,C1.out⟩
 have hp:0<=v.h/\v.h<hs.length/\ -1099511627776<=v.lo/\v.lo<=v.hi/\v.hi<=1099511627776:=by rcases HV.out with q|q;exact absurd q.1 (by omega);exact⟨q.2.2.2.1,q.2.2.2.2.1,q.2.2.2.2.2⟩
 obtain⟨p0,p1,p2,p3,p4⟩:=hp;have HK:Hid (v.k=1):=k1;have ek:(v.k==1)=true:=by simp[k1]
 clear k1;go_upto_if 21 with fail;go_cut [8](fun s8 wx=>(∃sp:Int,s8=.int .i64 sp/\1<=sp/\sp<=v.hi-v.lo+1/\sp<=1000)/\wx=u1)
 case first=>
  by_cases g1:1000<v.hi-v.lo+1
  ·have e1:decide (1000<v.hi-v.lo+1)=true:=by simp;omega
   go_wp2_with fail;go_meet;exact⟨⟨1000,rfl,by omega,by omega,by omega⟩,rfl⟩
  ·have e1:decide (1000<v.hi-v.lo+1)=false:=by simp;omega
   go_wp2_with fail;go_meet;exact⟨⟨_,rfl,by omega,by omega,by omega⟩,rfl⟩
 case rest=>
 obtain⟨⟨sp,rfl,sp1,sp2,sp3⟩,hw⟩:=hcut;rw[hw];clear hw;clear c0 c1 c2 c3 c4 c5 cz;obtain⟨kn,hkn⟩:=Int.eq_ofNat_of_zero_le p0;have hkl:kn<hs.length:=by omega
 obtain⟨gH,gc,hva⟩:∃g c,Value.slice ha hs.length hcp=.slice (some ⟨g,0,none⟩) hs.length c:=by
  obtain⟨g,c,h⟩:=row_some HH.out (by omega);exact⟨g,c,h⟩
 obtain⟨rfl,rfl⟩:ha=some ⟨gH,0,none⟩/\hcp=gc:=by
  have:=hva;simp only[Value.slice.injEq]at this;exact⟨this.1,this.2.2⟩
 obtain⟨xb,hxb⟩:∃y:HD,hs[kn]?=some y:=⟨_,List.getElem?_eq_getElem hkl⟩
 have j3:∀w',Fw p u1 w'/\Cur w' p ao n cap->w'.cell? ⟨w.heap.size,3,none⟩=some (.int .i64 (kn:Int)):=fun w' h=>by rw[<-hkn];exact(h.1.cl E1.out (by omega)).2 3 (by simp)
 have j4:∀w',Fw p u1 w'/\Cur w' p ao n cap->w'.cell? ⟨w.heap.size,4,none⟩=some (.int .i64 v.lo):=fun w' h=>(h.1.cl E1.out (by omega)).2 4 (by simp)
 have jz:∀w',Fw p u1 w'/\Cur w' p ao n cap->w.heap.size<w'.heap.size:=fun w' h=>(h.1.cl E1.out (by omega)).1
 have jr:∀w',Fw p u1 w'/\Cur w' p ao n cap->w'.ownsRow B 79 3 (.slice (some ⟨gH,0,none⟩) hs.length hcp) hs.length (hs.flatMap hdC):=fun w' h=>row_fw HH.out (F1.out.trans h.1) hB
 have j0:∀w',Fw p u1 w'/\Cur w' p ao n cap->w'.cell? ⟨gH,kn*3,none⟩=some (.int .u64 xb.base):=fun w' h=>by
  rw[(jr w' h).cellAt (kn*3) (by omega)];exact hd_at hs kn xb hxb
 have j1:∀w',Fw p u1 w'/\Cur w' p ao n cap->gH<w'.heap.size:=fun w' h=>((jr w' h).lt gH rfl).2
 have HBX:Hid (baseL hs kn=xb.base):=by
  unfold baseL;rw[List.getD_eq_getElem?_getD,hxb];rfl
 have HKN:Hid (v.h=(kn:Int)):=hkn;clear hkn hxb hva jr;go_upto_region 6 with fail;refine wp_region_held_drew (S:=fun w'=>Fw p u1 w'/\Cur w' p ao n cap) (by kernel_rfl) ⟨.of_below (Below.refl _ _).drew,C1.out.below (Below.refl _ _).drew⟩ (fun _=>?_);refine wpAnyH_ta 0 rfl ?_;refine wpAnyH_ta 1 rfl ?_;refine wpAnyH_ta 2 rfl ?_;refine wpAnyH_ta 3 rfl ?_;refine wpAnyH_ta 4 rfl ?_;refine wpAnyH_ta 5 rfl ?_;refine wpAnyH_ta 6 rfl ?_;refine wpAnyH_ta 7 rfl ?_;refine wpAnyH_ta 8 rfl ?_;refine wpAnyH_ta 9 rfl ?_;refine wpAnyH_ready (rs:=[10]) (by kernel_rfl) (by simp) ?_;refine AllReadyH.cons rfl (fun KK hK=>?_) AllReadyH.nil;go_simp;refine(l1Below_any p ao n cap sp _ (by omega) (C1.out.below (Below.refl _ _).drew)).mono ?_;rintro e u2⟨y,rfl,y0,y1,f,c⟩;have S2:Fw p u1 u2/\Cur u2 p ao n cap:=⟨(Fw.of_below (Below.refl _ _).drew).trans f,c⟩
 go_wp2_with fail;refine hK.out _ _ S2 (fun _=>?_);clear hK KK f c;refine wpAnyH_ta 11 rfl ?_;refine wpAnyH_ta 12 rfl ?_;refine wpAnyH_ta 13 rfl ?_;refine wpAnyH_ta 14 rfl ?_;refine wpAnyH_done (by kernel_rfl) ?_ _;have HS2:Hid (Fw p u1 u2/\Cur u2 p ao n cap):=S2;clear S2 j3 j4 jz j0 j1;go_wp2_with fail;go_ret;refine⟨_,rfl,u64r_wrap _,Or.inr ⟨HK.out,v.lo+y,by omega,by omega,?_⟩,F1.out.trans HS2.out.1,HS2.out.2⟩;rw[HKN.out,Int.toNat_natCast,HBX.out];simp only[IntKind.wrap_u64,IntKind.wrap_i64];omega
theorem ownlt{u:World}{B e s n q:Nat}{v:Value}{xs:List Value}(h:u.ownsRow B e s v n xs)(hq:v.ownBlock=some q):q<u.heap.size:=by
 rcases h.2 with⟨h',_⟩|⟨g,cap,cur,h',_,h2,_⟩
 ·rw[h']at hq;cases hq
 ·rw[h']at hq
  have e1:g=q:=Option.some.inj hq;have e2:=(Array.getElem?_eq_some_iff.1 h2).1;omega
theorem ownge{u:World}{B e s n q:Nat}{v:Value}{xs:List Value}(h:u.ownsRow B e s v n xs)(hq:v.ownBlock=some q):B<=q:=by
 rcases h.2 with⟨h',_⟩|⟨g,cap,cur,h',h1,_⟩
 ·rw[h']at hq;cases hq
 ·rw[h']at hq
  have e1:g=q:=Option.some.inj hq;omega
theorem row_dn{w:World}{B B' e s n:Nat}{v:Value}{xs:List Value}(h:w.ownsRow B e s v n xs)(hB:B'<=B):w.ownsRow B' e s v n xs:=by
 refine⟨h.1,?_⟩;rcases h.2 with h'|⟨g,cap,cur,h',h1,h2⟩
 ·exact .inl h'
 ·exact .inr ⟨g,cap,cur,h',Nat.le_trans hB h1,h2⟩
structure Off(m:Md)(q r hb:Nat):Prop where
 R:m.vR.ownBlock≠some hb
 H:m.vH.ownBlock≠some hb
 O:m.vO.ownBlock≠some hb
 D:∀x∈m.hs,x.v.ownBlock≠some hb
 q:hb≠q
 r:hb≠r
theorem DX.off{w u:World}{p n cap q r:Nat}{ao:Option Addr}{m:Md}(h:DX w p ao n cap q r m u){hb:Nat}(hh:u.heap.size<=hb):Off m q r hb:=
 ⟨fun e=>by have:=ownlt h.W.R e;omega,fun e=>by have:=ownlt h.W.H e;omega,fun e=>by have:=ownlt h.W.O e;omega,fun x hx e=>by have:=ownlt (h.W.D x hx) e;omega,by have:=(Array.getElem?_eq_some_iff.1 h.X).1;omega,by have:=(Array.getElem?_eq_some_iff.1 h.Z).1;omega⟩
theorem DX.putO{w u:World}{p n cap q r:Nat}{ao:Option Addr}{m:Md}(h:DX w p ao n cap q r m u){hb:Nat}(o:Off m q r hb)(hw:w.heap.size<=hb)(j:Nat)(v:Value):DX w p ao n cap q r m (u.setCell ⟨hb,j,none⟩ v):=
 ⟨⟨h.W.F.put hw _ _,h.W.K.put (by have:=h.W.pw;omega) _ _,row_put h.W.R o.R _ _,row_put h.W.H o.H _ _,row_put h.W.O o.O _ _,fun x hx=>row_put (h.W.D x hx) (o.D x hx) _ _,h.W.rr,h.W.hr,h.W.pw⟩,hq_other h.X (fun e=>o.q e.symm) _ _,hq_other h.Z (fun e=>o.r e.symm) _ _,h.wq,h.wr,h.ne⟩
def Hd1(w:World)(p:Nat)(ao:Option Addr)(n cap q r:Nat)(m:Md)(bs:Int)(wb:Bool)(sz:Int)(hb:Nat)(va:Option Addr)(vc:Nat)(ds:List Int)(u:World):Prop:=
 DX w p ao n cap q r m u/\u.heap[hb]?=some (.cells #[.int .u64 bs,.bool wb,.slice va ds.length vc] 79)/\u.ownsRow w.heap.size 5 1 (.slice va ds.length vc) ds.length (ds.map (.int .u8 ·))/\(ds.length:Int)=sz/\(∀x∈ds,0<=x/\x<=255)/\w.heap.size<=hb
structure FitH(m:Md)(S:Nat->HS):Prop where
 form:m={md0 with vR:=m.vR,vH:=m.vH,rs:=m.rs,hs:=m.hs}
 heap:∀i,i<m.hs.length->((m.hs.getD i hd0).ds.length:Int)=(S i).size/\(m.hs.getD i hd0).wr=(S i).w
theorem getD_app{α:Type}{l:List α}{x d:α}{i:Nat}(hi:i<(l++[x]).length):(l++[x]).getD i d=if i<l.length then l.getD i d else x:=by
 rw[List.getD_eq_getElem?_getD];by_cases h:i<l.length
 ·rw[if_pos h,List.getElem?_append_left h,List.getD_eq_getElem?_getD]
 ·have:i=l.length:=by rw[List.length_append]at hi;simp at hi;omega
  subst this;rw[if_neg h];simp
theorem FitH.grow{m:Md}{S:Nat->HS}(h:FitH m S){vH:Value}{x:HD}(h1:(x.ds.length:Int)=(S m.hs.length).size)(h2:x.wr=(S m.hs.length).w):FitH {m with vH:=vH,hs:=m.hs++[x]} S:=by
 refine⟨?_,fun i hi=>?_⟩
 ·have:=h.form
  rw[this]
 ·show(((m.hs++[x]).getD i hd0).ds.length:Int)=_/\((m.hs++[x]).getD i hd0).wr=_
  rw[getD_app hi];by_cases e:i<m.hs.length
  ·rw[if_pos e];exact h.heap i e
  ·have e2:i=m.hs.length:=by have:=hi;simp at this;omega
   subst e2;rw[if_neg e];exact⟨h1,h2⟩
structure FitM(m:Md)(nH:Nat)(S:Nat->HS)(V:Nat->VV):Prop where
 h:FitH m S
 nh:m.hs.length=nH
 nr:m.rs.length=8
 rg:∀i,i<8->HoldV (baseL m.hs) (V i) (m.rs.getD i 0)
theorem l4DrawFit_any(p:Nat)(ao:Option Addr)(n cap:Nat)(bH cH nH:Nat)(S:Nat->HS)(bR cR:Nat)(V:Nat->VV)(w:World)(hc:Cur w p ao n cap)(hS:Arr w bH (nH*3) (hsF S))(hV:Arr w bR (8*6) (vF V))(hp1:bH≠p)(hp2:bR≠p)(n8:nH<=8)(hsz:∀i,i<nH->1<=(S i).size/\(S i).size<=4096)(hgv:∀i,i<8->GV (V i) nH):
 Calls Tryz.prog 35 #[.pointer (some ⟨p,0,none⟩),.agg #[.slice (some ⟨bH,0,none⟩) nH cH,.slice (some ⟨bR,0,none⟩) 8 cR]] w fun e w'=>∃m:Md,e=.returned (.agg m.a)/\FitM m nH S V/\DW w p ao n cap m w':=by
 have HS:Hid (Arr w bH (nH*3) (hsF S)):=hS
 have HV:Hid (Arr w bR (8*6) (vF V)):=hV
 have HSZ:Hid (∀i,i<nH->1<=(S i).size/\(S i).size<=4096):=hsz
 have HGV:Hid (∀i,i<8->GV (V i) nH):=hgv
 obtain⟨iH,gH,gH0,gH1,gH2⟩:=info_parts info_cH
 have HIH:Hid (Tryz.prog.info? 79=some iH/\iH.zero=some (.agg #[.int .u64 0,.bool false,.slice none 0 0])/\iH.size=3/\iH.bytes=40):=⟨gH,gH0,gH1,gH2⟩
 obtain⟨iR,gR,gR0,gR1,gR2⟩:=info_parts info_cU
 have HIR:Hid (Tryz.prog.info? 77=some iR/\iR.zero=some (.int .u64 0)/\iR.size=1/\iR.bytes=8):=⟨gR,gR0,gR1,gR2⟩
 have lpw:=hc.lt
 have HC:Hid (Cur w p ao n cap):=hc
 clear hc gH gH0 gH1 gH2 gR gR0 gR1 gR2 hS hV hsz hgv
 go_enter Tryz.func35,Tryz.ntmps35
 go_upto_region 2 with fail
 obtain⟨w0,hw0,bw0,ew0⟩:∃y,w.alloc (.cells #[.slice (some ⟨bH,0,none⟩) nH cH,.slice (some ⟨bR,0,none⟩) 8 cR] 26)=y/\Below w.heap.size w y/\Cl y w.heap.size [.slice (some ⟨bH,0,none⟩) nH cH,.slice (some ⟨bR,0,none⟩) 8 cR]:=⟨_,rfl,(Below.refl _ _).alloc (Nat.le_refl _) _,Cl.new⟩
 have hz0:w0.heap.size=w.heap.size+1:=by rw[<-hw0];simp
 rw[hw0]
 have FW0:Hid (Fw p w w0):=.of_below bw0
 have HC0:Hid (Cur w0 p ao n cap):=HC.out.below bw0
 have HS0:Hid (Arr w0 bH (nH*3) (hsF S)):=HS.out.below bw0 HS.out.lt
 have HV0:Hid (Arr w0 bR (8*6) (vF V)):=HV.out.below bw0 HV.out.lt
 have E0:Hid (Cl w0 w.heap.size [.slice (some ⟨bH,0,none⟩) nH cH,.slice (some ⟨bR,0,none⟩) 8 cR]):=ew0
 obtain⟨u0,hu0,x0⟩:∃y,(w0.alloc (.cells md0.a 40)).alloc (.cells md0.a 40)=y/\DX w0 p ao n cap (w0.heap.size+1) w0.heap.size md0 y:=⟨_,rfl,dx_new w0 p ao n cap HC0.out⟩
 unfold Md.a md0 at hu0
 rw[hu0]
 rw[hz0]at x0
 obtain⟨r,hr⟩:∃y,w.heap.size+1=y:=⟨_,rfl⟩
 obtain⟨q,hq⟩:∃y,w.heap.size+1+1=y:=⟨_,rfl⟩
 rw[hq,hr]at x0
 rw[hq,hr]
 obtain⟨nb,hnb⟩:∃y,w.heap.size=y:=⟨_,rfl⟩
 have X0:Hid (DX w0 p ao n cap q r md0 u0):=x0
 have lp:p<w0.heap.size:=by omega
 have hnp:nb≠p:=by omega
 rw[hnb]at E0⊢
 have HD:Hid (DW w0 p ao n cap md0 u0->True):=fun _=>trivial
 clear hu0 x0 hw0 bw0 ew0 HC HS HV HC0 HD hz0 hr hq hnb
 go_wp2_with fail
 refine(l1Below_any p ao n cap 6 _ (by omega) X0.out.W.K).mono ?_
 rintro e u1⟨x,rfl,xl,xh,f,c⟩
 have X1:Hid (DX w0 p ao n cap q r md0 u1):=X0.out.fw f c
 clear f c X0
 go_wp2_with fail
 refine(l1Once_any p ao n cap 6 _ (by omega) X1.out.W.K).mono ?_
 rintro e u2⟨z,rfl,f,c⟩
 have X2:Hid (DX w0 p ao n cap q r md0 u2):=X1.out.fw f c
 clear f c X1
 go_upto_if 17 with fail
 go_cut [6](fun s6 wx=>(∃bs,s6=.int .u64 bs/\u64r bs)/\DX w0 p ao n cap q r md0 wx)
 case first=>
  cases z with
  |true=>
   go_wp2_with fail
   go_meet
   exact⟨⟨_,rfl,by unfold u64r;omega⟩,X2.out⟩
  |false=>
   go_wp2_with fail
   go_meet
   exact⟨⟨_,rfl,by unfold u64r;omega⟩,X2.out⟩
 case rest=>
 clear X2
 obtain⟨⟨bs,rfl,hbs⟩,fx⟩:=hcut
 have X3:Hid (DX w0 p ao n cap q r md0 wc):=fx
 have HBS:Hid (u64r bs):=hbs
 clear fx hbs
 generalize wc=u3 at X3⊢
 go_wp2_with fail
 go_loopw [6,7](fun bv iv wr=>∃(bs:Int)(m:Md),bv=.int .u64 bs/\u64r bs/\iv=.int .i64 (m.hs.length:Int)/\m.hs.length<=nH/\m.rs=[]/\FitH m S/\DX w0 p ao n cap q r m wr)(fun _ iv _=>((nH:Int)-intOf iv).toNat)
 case atStart=>exact⟨bs,md0,rfl,HBS.out,rfl,Nat.zero_le _,rfl,⟨rfl,fun i hi=>absurd hi (Nat.not_lt_zero _)⟩,X3.out⟩
 case round=>
  clear X3 HBS
  obtain⟨bs,m,rfl,hbs,rfl,hml,hmr,hft,hx⟩:=hrel
  have HBS:Hid (u64r bs):=hbs
  have HMR:Hid (m.rs=[]):=hmr
  have HFT:Hid (FitH m S):=hft
  have X5:Hid (DX w0 p ao n cap q r m wr):=hx
  obtain⟨kn,hk⟩:∃k:Nat,m.hs.length=k:=⟨_,rfl⟩
  have HK:Hid (m.hs.length=kn):=hk
  rw[hk]at hml⊢
  clear hbs hmr hft hx hk
  have j0:∀w',DX w0 p ao n cap q r m w'->w'.cell? ⟨nb,0,none⟩=some (.slice (some ⟨bH,0,none⟩) nH cH):=fun w' h=>(h.W.F.cl E0.out hnp).2 0 (by simp)
  have jz:∀w',DX w0 p ao n cap q r m w'->nb<w'.heap.size:=fun w' h=>(h.W.F.cl E0.out hnp).1
  have c0:=j0 _ X5.out
  have cz:=jz _ X5.out
  by_cases hlt:kn<nH
  ·have hlt':(kn:Int)<(nH:Int):=by omega
   obtain⟨sz1,sz2⟩:=HSZ.out kn hlt
   obtain⟨sz,hsz⟩:∃x:Int,(S kn).size=x:=⟨_,rfl⟩
   obtain⟨wb,hwb⟩:∃x:Bool,(S kn).w=x:=⟨_,rfl⟩
   have HSW:Hid ((S kn).size=sz/\(S kn).w=wb):=⟨hsz,hwb⟩
   rw[hsz]at sz1 sz2
   clear hsz hwb
   have jb:∀w',DX w0 p ao n cap q r m w'->bH<w'.heap.size:=fun w' h=>(h.W.F.arr HS0.out hp1).lt
   have js:∀w',DX w0 p ao n cap q r m w'->w'.cell? ⟨bH,kn*3,none⟩=some (.int .i64 sz):=fun w' h=>by rw[<-HSW.out.1];exact(hs_at (h.W.F.arr HS0.out hp1) hlt).1
   have jw:∀w',DX w0 p ao n cap q r m w'->w'.cell? ⟨bH,kn*3+2,none⟩=some (.bool wb):=fun w' h=>by rw[<-HSW.out.2];exact(hs_at (h.W.F.arr HS0.out hp1) hlt).2.2
   go_upto_region 8 with fail
   clear c0 cz
   go_cut [8](fun s8 wx=>∃hb va vc ds,s8=.pointer (some ⟨hb,0,none⟩)/\Hd1 w0 p ao n cap q r m bs wb sz hb va vc ds wx)
   case first=>as_aux_lemma=>
    refine wp_region_held_drew (S:=fun w'=>DX w0 p ao n cap q r m w') (by kernel_rfl) (X5.out.below (Below.refl _ _).drew) (fun _=>?_)
    refine wpAnyH_ta 0 rfl ?_
    refine wpAnyH_ta 1 rfl ?_
    refine wpAnyH_ta 2 rfl ?_
    refine wpAnyH_ta 3 rfl ?_
    refine wpAnyH_ta 4 rfl ?_
    refine wpAnyH_ta 5 rfl ?_
    refine wpAnyH_ta 6 rfl ?_
    refine wpAnyH_ta 7 rfl ?_
    refine wpAnyH_ta 8 rfl ?_
    refine wpAnyH_ta 9 rfl ?_
    refine wpAnyH_ta 10 rfl ?_
    refine wpAnyH_ta 11 rfl ?_
    refine wpAnyH_ta 12 rfl ?_
    refine wpAnyH_ta 13 rfl ?_
    have X6:Hid (DX w0 p ao n cap q r m wr.drew):=X5.out.below (Below.refl _ _).drew
    generalize wr.drew=t0 at X6⊢
    clear X5
    refine wpAnyH_ready (rs:=[14,16]) (by kernel_rfl) (by simp) ?_
    refine AllReadyH.cons rfl (fun KK hK=>?_) (AllReadyH.cons rfl (fun KK hK=>?_) AllReadyH.nil)
    ·skip
     go_simp
     refine(l1Some_any p ao n cap sz _ (by omega) (by omega) X6.out.W.K).mono ?_
     rintro e u8⟨v,rfl,ds,hdl,hdr,hdo,f,c⟩
     have X8:Hid (DX w0 p ao n cap q r m u8):=X6.out.fw f c
     obtain⟨va,vc,rfl⟩:=row_slD hdo
     have HD8:Hid (u8.ownsRow w0.heap.size 5 1 (.slice va ds.length vc) ds.length (ds.map (.int .u8 ·))):=row_dn hdo X6.out.W.F.size
     have HDR:Hid ((ds.length:Int)=sz/\∀x∈ds,0<=x/\x<=255):=⟨hdl,hdr⟩
     go_wp2_with fail
     refine hK.out _ _ X8.out (fun _=>?_)
     clear hK KK f c hdo hdl hdr X6
     try go_frame
     refine wpAnyH_ta 15 rfl ?_
     refine wpAnyH_ready (rs:=[16]) (by kernel_rfl) (by simp) ?_
     refine AllReadyH.cons rfl (fun KK hK=>?_) AllReadyH.nil
     go_simp
     refine hK.out _ _ (X8.out.below ((Below.refl _ _).alloc (Nat.le_refl _) _)) (fun _=>?_)
     clear hK KK
     try go_frame
     refine wpAnyH_ready (rs:=[17]) (by kernel_rfl) (by simp) ?_
     refine AllReadyH.cons rfl (fun KK hK=>?_) AllReadyH.nil
     go_simp
     refine hK.out _ _ (X8.out.below ((Below.refl _ _).alloc (Nat.le_refl _) _)) (fun _=>?_)
     clear hK KK
     try go_frame
     refine wpAnyH_done (by kernel_rfl) ?_ _
     clear j0 jz jb js jw
     go_wp2_with fail
     go_meet
     exact⟨u8.heap.size,va,vc,ds,rfl,X8.out.below ((Below.refl _ _).alloc (Nat.le_refl _) _),hq_new _ _,row_belowD HD8.out ((Below.refl _ _).alloc (Nat.le_refl _) _),HDR.out.1,HDR.out.2,X8.out.W.F.size⟩
    ·skip
     go_simp
     refine hK.out _ _ (X6.out.below ((Below.refl _ _).alloc (Nat.le_refl _) _)) (fun _=>?_)
     clear hK KK
     try go_frame
     obtain⟨t1,ht1,x7,h7,z7⟩:∃y,t0.alloc (.cells #[.int .u64 0,.bool false,.slice none 0 0] 79)=y/\DX w0 p ao n cap q r m y/\y.heap[t0.heap.size]?=some (.cells #[.int .u64 0,.bool false,.slice none 0 0] 79)/\t0.heap.size<y.heap.size:=⟨_,rfl,X6.out.below ((Below.refl _ _).alloc (Nat.le_refl _) _),hq_new _ _,by simp⟩
     rw[ht1]
     have HO:Hid (Off m q r t0.heap.size/\w0.heap.size<=t0.heap.size):=⟨X6.out.off (Nat.le_refl _),X6.out.W.F.size⟩
     obtain⟨hb,hhb⟩:∃y,t0.heap.size=y:=⟨_,rfl⟩
     rw[hhb]at h7 z7 HO
     rw[hhb]
     have X7:Hid (DX w0 p ao n cap q r m t1):=x7
     have H7:Hid (t1.heap[hb]?=some (.cells #[.int .u64 0,.bool false,.slice none 0 0] 79)):=h7
     have Z7:Hid (hb<t1.heap.size):=z7
     clear ht1 x7 h7 z7 hhb X6
     refine wpAnyH_ready (rs:=[14]) (by kernel_rfl) (by simp) ?_
     refine AllReadyH.cons rfl (fun KK hK=>?_) AllReadyH.nil
     go_simp
     refine(l1Some_any p ao n cap sz _ (by omega) (by omega) X7.out.W.K).mono ?_
     rintro e u8⟨v,rfl,ds,hdl,hdr,hdo,f,c⟩
     have X8:Hid (DX w0 p ao n cap q r m u8):=X7.out.fw f c
     obtain⟨va,vc,rfl⟩:=row_slD hdo
     have HD8:Hid (u8.ownsRow w0.heap.size 5 1 (.slice va ds.length vc) ds.length (ds.map (.int .u8 ·))):=row_dn hdo X7.out.W.F.size
     have HND:Hid ((Value.slice va ds.length vc).ownBlock≠some hb):=fun e=>by have h1:=ownge hdo e;have h2:=Z7.out;omega
     have HDR:Hid ((ds.length:Int)=sz/\∀x∈ds,0<=x/\x<=255):=⟨hdl,hdr⟩
     have H8:Hid (u8.heap[hb]?=some (.cells #[.int .u64 0,.bool false,.slice none 0 0] 79)):=hq_fw H7.out f (by have:=HO.out.2;omega)
     go_wp2_with fail
     refine hK.out _ _ X8.out (fun _=>?_)
     clear hK KK f c hdo hdl hdr X7 H7 Z7
     try go_frame
     refine wpAnyH_ta 15 rfl ?_
     have c0:=hq_cell H8.out 0
     have c1:=hq_cell H8.out 1
     have c2:=hq_cell H8.out 2
     simp only[List.getElem?_toArray,List.getElem?_cons_zero,List.getElem?_cons_succ]at c0 c1 c2
     have cf:=hq_free H8.out
     have cz:=(Array.getElem?_eq_some_iff.1 H8.out).1
     refine wpAnyH_ready (rs:=[17]) (by kernel_rfl) (by simp) ?_
     refine AllReadyH.cons rfl (fun KK hK=>?_) AllReadyH.nil
     go_simp
     have XE:DX w0 p ao n cap q r m (((u8.setCell ⟨hb,0,none⟩ (.int .u64 bs)).setCell ⟨hb,1,none⟩ (.bool wb)).setCell ⟨hb,2,none⟩ (.slice va ds.length vc)):=((X8.out.putO HO.out.1 HO.out.2 _ _).putO HO.out.1 HO.out.2 _ _).putO HO.out.1 HO.out.2 _ _
     refine hK.out _ _ XE (fun _=>?_)
     clear hK KK c0 c1 c2 cf cz
     try go_frame
     refine wpAnyH_done (by kernel_rfl) ?_ _
     have XE2:Hid (DX w0 p ao n cap q r m (((u8.setCell ⟨hb,0,none⟩ (.int .u64 bs)).setCell ⟨hb,1,none⟩ (.bool wb)).setCell ⟨hb,2,none⟩ (.slice va ds.length vc))):=XE
     clear XE j0 jz jb js jw
     go_wp2_with fail
     go_meet
     exact⟨hb,va,vc,ds,rfl,XE2.out,(hq_set (hq_set (hq_set H8.out 0 _) 1 _) 2 _).trans rfl,row_put (row_put (row_put HD8.out HND.out _ _) HND.out _ _) HND.out _ _,HDR.out.1,HDR.out.2,HO.out.2⟩
   case rest=>
   clear X5 j0 jz jb js jw
   obtain⟨hb,va,vc,ds,rfl,h8⟩:=hcut
   generalize wc=u9 at *
   have X9:Hid (DX w0 p ao n cap q r m u9):=h8.1
   have H9:Hid (u9.heap[hb]?=some (.cells #[.int .u64 bs,.bool wb,.slice va ds.length vc] 79)):=h8.2.1
   have D9:Hid (u9.ownsRow w0.heap.size 5 1 (.slice va ds.length vc) ds.length (ds.map (.int .u8 ·))):=h8.2.2.1
   have HDL:Hid ((ds.length:Int)=sz):=h8.2.2.2.1
   have HDR:Hid (∀x∈ds,0<=x/\x<=255):=h8.2.2.2.2.1
   have hbw:w0.heap.size<=hb:=h8.2.2.2.2.2
   have hdl2:ds.length<=4096:=by have:=HDL.out;omega
   have c0:=hq_cell H9.out 0
   have c1:=hq_cell H9.out 1
   have c2:=hq_cell H9.out 2
   simp only[List.getElem?_toArray,List.getElem?_cons_zero,List.getElem?_cons_succ]at c0 c1 c2
   have cz:=(Array.getElem?_eq_some_iff.1 H9.out).1
   clear h8
   go_wp2_with fail
   refine(size_any bs wb va ds.length vc _ (by omega)).mono ?_
   rintro e u10⟨rfl,hb10⟩
   have X10:Hid (DX w0 p ao n cap q r m u10):=X9.out.below hb10
   have H10:Hid (u10.heap[hb]?=some (.cells #[.int .u64 bs,.bool wb,.slice va ds.length vc] 79)):=(hb10.block hb cz).trans H9.out
   have D10:Hid (u10.ownsRow w0.heap.size 5 1 (.slice va ds.length vc) ds.length (ds.map (.int .u8 ·))):=row_belowD D9.out hb10
   clear hb10 X9 H9 D9 c0 c1 c2 cz
   go_wp2_with fail
   refine(l1Below_any p ao n cap 9 _ (by omega) X10.out.W.K).mono ?_
   rintro e u11⟨g,rfl,g0,g1,f,c⟩
   have X11:Hid (DX w0 p ao n cap q r m u11):=X10.out.fw f c
   have H11:Hid (u11.heap[hb]?=some (.cells #[.int .u64 bs,.bool wb,.slice va ds.length vc] 79)):=hq_fw H10.out f (by omega)
   have D11:Hid (u11.ownsRow w0.heap.size 5 1 (.slice va ds.length vc) ds.length (ds.map (.int .u8 ·))):=row_fw D10.out f lp
   clear f c X10 H10 D10
   have c0:=hq_cell H11.out 0
   have c1:=hq_cell H11.out 1
   have c2:=hq_cell H11.out 2
   simp only[List.getElem?_toArray,List.getElem?_cons_zero,List.getElem?_cons_succ]at c0 c1 c2
   have cz:=(Array.getElem?_eq_some_iff.1 H11.out).1
   obtain⟨⟨_,_,_,_,_,x5,_,_,_⟩,xf,xz⟩:=X11.out.cells
   obtain⟨ha,hcp,hvH⟩:=row_slD X11.out.W.H
   rw[hvH]at x5
   have HVH:Hid (m.vH=.slice ha m.hs.length hcp):=hvH
   clear hvH
   go_upto_region 10 with fail
   obtain⟨b2,hb2⟩:∃y,IntKind.u64.wrap (IntKind.u64.wrap (bs+(ds.length:Int))+g)=y:=⟨_,rfl⟩
   have HB2:Hid (u64r b2):=(by rw[<-hb2];exact u64r_wrap _:u64r b2)
   rw[hb2]
   clear hb2
   have hyn:m.hs.length<=8:=by have:=HK.out;omega
   have hBa:∀o,w0.heap.size<=(u11.alloc o).heap.size:=fun o=>(X11.out.below ((Below.refl _ _).alloc (Nat.le_refl _) o)).W.F.size
   have HCN:Hid (∀j u,[Value.int .u64 bs,.bool wb,.slice va ds.length vc][j]?=some u->(u11.alloc (.cells #[.int .u64 bs,.bool wb,.slice va ds.length vc] 79)).cell? ((⟨u11.heap.size,0,none⟩:Addr).add j)=some u):=cells_newD u11 _ _
   have OA:Hid (∀o,(u11.alloc o).ownsRow w0.heap.size 79 3 (.slice ha m.hs.length hcp) m.hs.length (m.hs.flatMap hdC)):=fun o=>by
    have k:=(X11.out.below ((Below.refl _ _).alloc (Nat.le_refl _) o)).W.H
    rw[HVH.out]at k
    exact k
   go_wp2_with(first|(at_builtin;refine wpList_append_own_at _ rfl _ _ 37 rfl w0.heap.size 79 iH _ 3 40 Tryz.underlying37 HIH.out.1 HIH.out.2.1 HIH.out.2.2.1 HIH.out.2.2.2 rfl (by decide) _ _ _ rfl (OA.out _) ⟨u11.heap.size,0,none⟩ 1 1 [Value.int .u64 bs,.bool wb,.slice va ds.length vc] rfl rfl HCN.out ?c2 ?c3 ?c4 (hBa _) ?_))
   case c2=>simp[Value.oneCell']
   case c3=>unfold maxLen;omega
   case c4=>omega
   intro v' u12 hown hgrow _ _
   obtain⟨vb,vcp,rfl⟩:=row_slD hown
   obtain⟨ua,hua,ba⟩:∃y,u11.alloc (.cells #[.int .u64 bs,.bool wb,.slice va ds.length vc] 79)=y/\Below u11.heap.size u11 y:=⟨_,rfl,(Below.refl _ _).alloc (Nat.le_refl _) _⟩
   rw[hua]at hgrow
   rw[<-HVH.out]at hgrow
   have XA:=X11.out.below ba
   have W12:DW w0 p ao n cap {m with vH:=.slice vb (m.hs.length+1) vcp,hs:=m.hs++[⟨bs,wb,.slice va ds.length vc,ds⟩]} u12:=XA.W.growH _ ⟨bs,wb,.slice va ds.length vc,ds⟩ ⟨HBS.out,by show ds.length<=4100;omega,HDR.out⟩ (row_belowD D11.out ba) hgrow hown
   have Q12:=grown_obj XA.X hgrow (grown_ne XA.X XA.W.H (by decide))
   have Z12:=grown_obj XA.Z hgrow (grown_ne XA.Z XA.W.H (by decide))
   have X12:Hid (DX w0 p ao n cap q r {m with vH:=.slice vb (m.hs.length+1) vcp,hs:=m.hs++[⟨bs,wb,.slice va ds.length vc,ds⟩]} (u12.setCell ⟨q,5,none⟩ (.slice vb (m.hs.length+1) vcp))):=DX.store W12 Q12 Z12 X11.out.wq X11.out.wr X11.out.ne 5 _ rfl
   have y5:=hq_cell Q12 5
   have yf:=hq_free Q12
   have yz:=(Array.getElem?_eq_some_iff.1 Q12).1
   clear hown hgrow ba hua XA W12 Q12 Z12 c0 c1 c2 cz x5 xf xz X11 H11 D11
   go_wp2_with fail
   go_roundw
   case rel=>exact⟨b2,{m with vH:=.slice vb (m.hs.length+1) vcp,hs:=m.hs++[⟨bs,wb,.slice va ds.length vc,ds⟩]},rfl,HB2.out,by have:=HK.out;simp;omega,by have:=HK.out;simp;omega,HMR.out,HFT.out.grow (by rw[HK.out,HSW.out.1];exact HDL.out) (by rw[HK.out,HSW.out.2]),X12.out⟩
   case measure=>simp[intOf];omega
  ·have hke:Hid (m.hs.length=nH):=(by have:=HK.out;omega:m.hs.length=nH)
   have hge:¬((kn:Int)<(nH:Int)):=by omega
   clear HBS HK
   go_wp2_with fail
   clear c0 cz j0 jz
   go_loopw [9](fun iv wr=>∃(m:Md),iv=.int .i64 (m.rs.length:Int)/\m.rs.length<=8/\m.hs.length=nH/\FitH m S/\(∀i,i<m.rs.length->HoldV (baseL m.hs) (V i) (m.rs.getD i 0))/\DX w0 p ao n cap q r m wr)(fun iv _=>(8-intOf iv).toNat)
   case atStart=>exact⟨m,by rw[HMR.out];rfl,by rw[HMR.out];exact Nat.zero_le _,hke.out,HFT.out,fun i hi=>by rw[HMR.out]at hi;exact absurd hi (Nat.not_lt_zero _),X5.out⟩
   case round=>
    clear X5 HMR HFT hke hge
    obtain⟨m,rfl,hml,hmh,hft,hrg,hx⟩:=hrel
    have X5:Hid (DX w0 p ao n cap q r m wr):=hx
    have HMH:Hid (m.hs.length=nH):=hmh
    have HFT:Hid (FitH m S):=hft
    have HRG:Hid (∀i,i<m.rs.length->HoldV (baseL m.hs) (V i) (m.rs.getD i 0)):=hrg
    obtain⟨k,hk⟩:∃k:Nat,m.rs.length=k:=⟨_,rfl⟩
    have HK:Hid (m.rs.length=k):=hk
    rw[hk]at hml⊢
    clear hmh hft hrg hx hk
    by_cases hlt8:k<8
    ·have hlt8':(k:Int)<8:=by omega
     obtain⟨ha,hcp,hvH⟩:=row_slD X5.out.W.H
     have j1:∀w',DX w0 p ao n cap q r m w'->w'.cell? ⟨nb,1,none⟩=some (.slice (some ⟨bR,0,none⟩) 8 cR):=fun w' h=>(h.W.F.cl E0.out hnp).2 1 (by simp)
     have jz:∀w',DX w0 p ao n cap q r m w'->nb<w'.heap.size:=fun w' h=>(h.W.F.cl E0.out hnp).1
     have jb:∀w',DX w0 p ao n cap q r m w'->bR<w'.heap.size:=fun w' h=>(h.W.F.arr HV0.out hp2).lt
     have v0:∀w',DX w0 p ao n cap q r m w'->w'.cell? ⟨bR,k*6,none⟩=some (.int .i64 (V k).k):=fun w' h=>(reg_cells (h.W.F.arr HV0.out hp2) k hlt8).1
     have v1:∀w',DX w0 p ao n cap q r m w'->w'.cell? ⟨bR,k*6+1,none⟩=some (.bool (V k).s):=fun w' h=>(reg_cells (h.W.F.arr HV0.out hp2) k hlt8).2.1
     have v2:∀w',DX w0 p ao n cap q r m w'->w'.cell? ⟨bR,k*6+2,none⟩=some (.int .i64 (V k).m):=fun w' h=>(reg_cells (h.W.F.arr HV0.out hp2) k hlt8).2.2.1
     have v3:∀w',DX w0 p ao n cap q r m w'->w'.cell? ⟨bR,k*6+3,none⟩=some (.int .i64 (V k).h):=fun w' h=>(reg_cells (h.W.F.arr HV0.out hp2) k hlt8).2.2.2.1
     have v4:∀w',DX w0 p ao n cap q r m w'->w'.cell? ⟨bR,k*6+4,none⟩=some (.int .i64 (V k).lo):=fun w' h=>(reg_cells (h.W.F.arr HV0.out hp2) k hlt8).2.2.2.2.1
     have v5:∀w',DX w0 p ao n cap q r m w'->w'.cell? ⟨bR,k*6+5,none⟩=some (.int .i64 (V k).hi):=fun w' h=>(reg_cells (h.W.F.arr HV0.out hp2) k hlt8).2.2.2.2.2
     have j5:∀w',DX w0 p ao n cap q r m w'->w'.cell? ⟨q,5,none⟩=some (.slice ha m.hs.length hcp):=fun w' h=>by rw[<-hvH];exact h.cells.1.2.2.2.2.2.1
     have jq:∀w',DX w0 p ao n cap q r m w'->q<w'.heap.size:=fun w' h=>h.cells.2.2
     have HVH:Hid (m.vH=.slice ha m.hs.length hcp):=hvH
     clear hvH
     go_upto_region 14 with fail
     refine wp_region_held_drew (S:=fun w'=>DX w0 p ao n cap q r m w') (by kernel_rfl) (X5.out.below (Below.refl _ _).drew) (fun _=>?_)
     refine wpAnyH_ta 0 rfl ?_
     refine wpAnyH_ta 1 rfl ?_
     refine wpAnyH_ta 2 rfl ?_
     refine wpAnyH_ta 3 rfl ?_
     refine wpAnyH_ta 4 rfl ?_
     refine wpAnyH_ta 5 rfl ?_
     refine wpAnyH_ta 6 rfl ?_
     refine wpAnyH_ta 7 rfl ?_
     refine wpAnyH_ready (rs:=[8]) (by kernel_rfl) (by simp) ?_
     refine AllReadyH.cons rfl (fun KK hK=>?_) AllReadyH.nil
     go_simp
     refine(l4DrawReg_any p ao n cap (V k) ha hcp w0.heap.size m.hs _ (by rw[HMH.out];exact HGV.out k hlt8) (X5.out.below (Below.refl _ _).drew).W.K (by have h:=(X5.out.below (Below.refl _ _).drew).W.H;rw[HVH.out]at h;exact h) lp (by have:=HMH.out;omega)).mono ?_
     rintro e u10⟨x2,rfl,hx2,hhold,f,c⟩
     have X10:DX w0 p ao n cap q r m u10:=(X5.out.below (Below.refl _ _).drew).fw f c
     have HX2:Hid (u64r x2):=hx2
     have HHO:Hid (HoldV (baseL m.hs) (V k) x2):=hhold
     go_wp2_with fail
     refine hK.out _ _ X10 (fun _=>?_)
     clear hK KK f c hx2 hhold
     try go_frame
     refine wpAnyH_ta 9 rfl ?_
     refine wpAnyH_done (by kernel_rfl) ?_ _
     have X11:Hid (DX w0 p ao n cap q r m u10):=X10
     clear X10 X5 j1 jz jb v0 v1 v2 v3 v4 v5 j5 jq
     generalize u10=u11 at X11⊢
     obtain⟨⟨x0,_,_,_,_,_,_,_,_⟩,xf,xz⟩:=X11.out.cells
     obtain⟨ra,rc,hvR⟩:=row_slD X11.out.W.R
     rw[hvR]at x0
     have HVR:Hid (m.vR=.slice ra m.rs.length rc):=hvR
     have hyn:m.rs.length<=8:=by have:=HK.out;omega
     have hBa:∀o,w0.heap.size<=(u11.alloc o).heap.size:=fun o=>(X11.out.below ((Below.refl _ _).alloc (Nat.le_refl _) o)).W.F.size
     have HCN:Hid (∀j u,[Value.int .u64 x2][j]?=some u->(u11.alloc (.cells #[.int .u64 x2] 77)).cell? ((⟨u11.heap.size,0,none⟩:Addr).add j)=some u):=cells_newD u11 _ _
     have OA:Hid (∀o,(u11.alloc o).ownsRow w0.heap.size 77 1 (.slice ra m.rs.length rc) m.rs.length (m.rs.map (.int .u64 ·))):=fun o=>by
      have k:=(X11.out.below ((Below.refl _ _).alloc (Nat.le_refl _) o)).W.R
      rw[hvR]at k
      exact k
     clear hvR
     go_wp2_with(first|(at_builtin;refine wpList_append_own_at _ rfl _ _ 36 rfl w0.heap.size 77 iR _ 1 8 Tryz.underlying36 HIR.out.1 HIR.out.2.1 HIR.out.2.2.1 HIR.out.2.2.2 rfl (by decide) _ _ _ rfl (OA.out _) ⟨u11.heap.size,0,none⟩ 1 1 [Value.int .u64 x2] rfl rfl HCN.out ?c2 ?c3 ?c4 (hBa _) ?_))
     case c2=>simp[Value.oneCell']
     case c3=>unfold maxLen;omega
     case c4=>omega
     intro v' u12 hown hgrow _ _
     obtain⟨vb,vcp,rfl⟩:=row_slD hown
     obtain⟨ua,hua,ba⟩:∃y,u11.alloc (.cells #[.int .u64 x2] 77)=y/\Below u11.heap.size u11 y:=⟨_,rfl,(Below.refl _ _).alloc (Nat.le_refl _) _⟩
     rw[hua]at hgrow
     rw[<-HVR.out]at hgrow
     have XA:=X11.out.below ba
     have W12:DW w0 p ao n cap {m with vR:=.slice vb (m.rs.length+1) vcp,rs:=m.rs++[x2]} u12:=XA.W.growR _ x2 HX2.out hgrow hown
     have Q12:=grown_obj XA.X hgrow (grown_ne XA.X XA.W.R (by decide))
     have Z12:=grown_obj XA.Z hgrow (grown_ne XA.Z XA.W.R (by decide))
     have X12:Hid (DX w0 p ao n cap q r {m with vR:=.slice vb (m.rs.length+1) vcp,rs:=m.rs++[x2]} (u12.setCell ⟨q,0,none⟩ (.slice vb (m.rs.length+1) vcp))):=DX.store W12 Q12 Z12 X11.out.wq X11.out.wr X11.out.ne 0 _ rfl
     have y0:=hq_cell Q12 0
     have yf:=hq_free Q12
     have yz:=(Array.getElem?_eq_some_iff.1 Q12).1
     clear hown hgrow ba hua XA W12 Q12 Z12 x0 xf xz X11
     go_wp2_with fail
     go_roundw
     case rel=>exact⟨{m with vR:=.slice vb (m.rs.length+1) vcp,rs:=m.rs++[x2]},by have:=HK.out;simp;omega,by have:=HK.out;simp;omega,HMH.out,⟨by have h:=HFT.out.form;rw[h],HFT.out.heap⟩,fun i hi=>by
      show HoldV (baseL m.hs) (V i) ((m.rs++[x2]).getD i 0)
      rw[getD_app hi]
      by_cases e:i<m.rs.length
      ·rw[if_pos e];exact HRG.out i e
      ·have e2:i=k:=by have h:=hi;have h2:=HK.out;simp at h;omega
       rw[if_neg e,e2];exact HHO.out,X12.out⟩
     case measure=>simp[intOf];omega
    ·have hk8:Hid (m.rs.length=8):=(by have:=HK.out;omega:m.rs.length=8)
     have hge8:¬((k:Int)<8):=by omega
     obtain⟨ra,rc,hvR⟩:=row_slD X5.out.W.R
     obtain⟨ha,hcp,hvH⟩:=row_slD X5.out.W.H
     have hf:=HFT.out.form
     have HFM:Hid (FitM m nH S V):=⟨HFT.out,HMH.out,hk8.out,fun i hi=>HRG.out i (by have:=hk8.out;omega)⟩
     clear HK HMH HFT HRG
     obtain⟨vR,fz,fc,fhz,fhc,vH,pc,st,vO,rs,hs,os⟩:=m
     unfold md0 at hf
     dsimp only at hf hvR hvH
     injection hf with _ e1 e2 e3 e4 _ e6 e7 e8 _ _ e11
     subst hvR hvH e1 e2 e3 e4 e6 e7 e8 e11
     obtain⟨⟨x0,x1,x2,x3,x4,x5,x6,x7,x8⟩,xf,xz⟩:=X5.out.cells
     dsimp only at x0 x1 x2 x3 x4 x5 x6 x7 x8
     obtain⟨z0,z1,z2,z3,z4,z5,z6,z7,z8,zf,zz⟩:=z9 X5.out.Z
     have W14:Hid (DW w0 p ao n cap ⟨.slice ra rs.length rc,false,false,false,false,.slice ha hs.length hcp,0,0,.slice none 0 0,rs,hs,[]⟩ _):=X5.out.W.put9 X5.out.wr X5.out.Z (.slice ra rs.length rc) (.bool false) (.bool false) (.bool false) (.bool false) (.slice ha hs.length hcp) (.int .i64 0) (.int .i64 0) (.slice none 0 0)
     have hne:=X5.out.ne
     clear X5
     go_wp2
     refine bodyPost_ret (v:=.agg #[.slice ra rs.length rc,.bool false,.bool false,.bool false,.bool false,.slice ha hs.length hcp,.int .i64 0,.int .i64 0,.slice none 0 0]) (by simp[results,Tryz.results35,go_sem,z0,z1,z2,z3,z4,z5,z6,z7,z8]) rfl ⟨⟨.slice ra rs.length rc,false,false,false,false,.slice ha hs.length hcp,0,0,.slice none 0 0,rs,hs,[]⟩,rfl,HFM.out,W14.out.down FW0.out lpw⟩
theorem ML.putlt{B r:Nat}{m:Md}{u:World}(h:ML B m u)(hr:r<B)(j:Nat)(v:Value):ML B m (u.setCell ⟨r,j,none⟩ v):=
 have k:∀{e s n':Nat}{v':Value}{xs:List Value},u.ownsRow B e s v' n' xs->(u.setCell ⟨r,j,none⟩ v).ownsRow B e s v' n' xs:=fun h=>row_put h (fun e=>by have:=ownge h e;omega) j v
 ⟨k h.R,k h.H,k h.O,fun x hx=>k (h.D x hx),h.rr,h.hr⟩
theorem ML.dn{B B':Nat}{m:Md}{u:World}(h:ML B m u)(hB:B'<=B):ML B' m u:=⟨row_dn h.R hB,row_dn h.H hB,row_dn h.O hB,fun x hx=>row_dn (h.D x hx) hB,h.rr,h.hr⟩
structure FZ(w1:World)(p:Nat)(ao:Option Addr)(n cap:Nat)(r q:Nat)(m:Md)(u:World):Prop where
 W:DW w1 p ao n cap m u
 Z:u.heap[r]?=some (.cells md0.a 40)
 Q:u.heap[q]?=some (.cells m.a 40)
 rp:r<p
 wq:w1.heap.size<=q
theorem FZ.fw{w1 u u':World}{p n cap r q:Nat}{ao:Option Addr}{m:Md}(h:FZ w1 p ao n cap r q m u)(f:Fw p u u')(c:Cur u' p ao n cap):FZ w1 p ao n cap r q m u':=
 ⟨h.W.fw f c,hq_fw h.Z f (by have:=h.rp;omega),hq_fw h.Q f (by have:=h.wq;have:=h.W.pw;omega),h.rp,h.wq⟩
theorem FZ.set{w1 u:World}{p n cap r q:Nat}{ao:Option Addr}{m:Md}(h:FZ w1 p ao n cap r q m u)(m':Md)(j:Nat)(v:Value)(hv:m.a.setIfInBounds j v=m'.a)(e1:m'.vR=m.vR)(e2:m'.vH=m.vH)(e3:m'.vO=m.vO)(e4:m'.rs=m.rs)(e5:m'.hs=m.hs)(e6:m'.os=m.os):FZ w1 p ao n cap r q m' (u.setCell ⟨q,j,none⟩ v):=by
 have k:=h.W.put h.wq h.Q j v;refine⟨⟨k.F,k.K,by rw[e1,e4];exact k.R,by rw[e2,e5];exact k.H,by rw[e3,e6];exact k.O,by rw[e5];exact k.D,by rw[e4];exact k.rr,by rw[e5];exact k.hr,k.pw⟩,?_,?_,h.rp,h.wq⟩
 ·exact hq_other h.Z (by have:=h.rp;have:=h.wq;have:=h.W.pw;omega) j v
 ·rw[<-hv];exact hq_set h.Q j v
theorem FZ.cells{w1 u:World}{p n cap r q:Nat}{ao:Option Addr}{m:Md}(h:FZ w1 p ao n cap r q m u):(u.cell? ⟨q,0,none⟩=some m.vR/\u.cell? ⟨q,1,none⟩=some (.bool m.z)/\u.cell? ⟨q,2,none⟩=some (.bool m.c)/\u.cell? ⟨q,3,none⟩=some (.bool m.hz)/\u.cell? ⟨q,4,none⟩=some (.bool m.hc)/\u.cell? ⟨q,5,none⟩=some m.vH/\u.cell? ⟨q,6,none⟩=some (.int .i64 m.pc)/\u.cell? ⟨q,7,none⟩=some (.int .i64 m.st)/\u.cell? ⟨q,8,none⟩=some m.vO)/\(∀i,u.frozen? ⟨q,i,none⟩=false)/\q<u.heap.size:=
 ⟨⟨hq_cell h.Q 0,hq_cell h.Q 1,hq_cell h.Q 2,hq_cell h.Q 3,hq_cell h.Q 4,hq_cell h.Q 5,hq_cell h.Q 6,hq_cell h.Q 7,hq_cell h.Q 8⟩,hq_free h.Q,(Array.getElem?_eq_some_iff.1 h.Q).1⟩
structure FitL(rs:List Int)(hs:List HD)(nH:Nat)(S:Nat->HS)(V:Nat->VV):Prop where
 nh:hs.length=nH
 nr:rs.length=8
 heap:∀i,i<hs.length->((hs.getD i hd0).ds.length:Int)=(S i).size/\(hs.getD i hd0).wr=(S i).w
 rg:∀i,i<8->HoldV (baseL hs) (V i) (rs.getD i 0)
def ForR(nH:Nat)(S:Nat->HS)(V:Nat->VV)(z c:Int)(w:World)(e:Ending)(w':World):Prop:=
 ∃(ra:Option Addr)(rc:Nat)(rs:List Int)(ha:Option Addr)(hcp:Nat)(hs:List HD)(bz bc:Bool),e=.returned (.agg #[.slice ra rs.length rc,.bool bz,.bool bc,.bool (decide (0<z)),.bool (decide (0<c)),.slice ha hs.length hcp,.int .i64 0,.int .i64 0,.slice none 0 0])/\FitL rs hs nH S V/\ML w.heap.size ⟨.slice ra rs.length rc,bz,bc,decide (0<z),decide (0<c),.slice ha hs.length hcp,0,0,.slice none 0 0,rs,hs,[]⟩ w'/\Below w.heap.size w w'
theorem DrawFor_any(ao:Option Addr)(n cap:Nat)(bH cH nH:Nat)(S:Nat->HS)(bR cR:Nat)(V:Nat->VV)(z c:Int)(w:World)(hn:n<=1048576)(hr:Bytes0 w w.heap.size ao n)(hS:Arr w bH (nH*3) (hsF S))(hV:Arr w bR (8*6) (vF V))(n8:nH<=8)(hsz:∀i,i<nH->1<=(S i).size/\(S i).size<=4096)(hgv:∀i,i<8->GV (V i) nH):
 Calls Tryz.prog 7 #[.slice ao n cap,.agg #[.slice (some ⟨bH,0,none⟩) nH cH,.slice (some ⟨bR,0,none⟩) 8 cR],.int .i64 z,.int .i64 c] w (ForR nH S V z c w):=by
 have HR:Hid (Bytes0 w w.heap.size ao n):=hr;have HS:Hid (Arr w bH (nH*3) (hsF S)):=hS;have HV:Hid (Arr w bR (8*6) (vF V)):=hV;obtain⟨fz,hfz⟩:∃b,decide (0<z)=b:=⟨_,rfl⟩
 obtain⟨fc,hfc⟩:∃b,decide (0<c)=b:=⟨_,rfl⟩
 have HZC:Hid (decide (0<z)=fz/\decide (0<c)=fc):=⟨hfz,hfc⟩
 clear hr hS hV;go_enter Tryz.func7,Tryz.ntmps7;go_upto_region 1 with fail;obtain⟨w0,hw0,bw0,ew0⟩:∃y,w.alloc (.cells #[.slice (some ⟨bH,0,none⟩) nH cH,.slice (some ⟨bR,0,none⟩) 8 cR] 26)=y/\Below w.heap.size w y/\Cl y w.heap.size [.slice (some ⟨bH,0,none⟩) nH cH,.slice (some ⟨bR,0,none⟩) 8 cR]:=⟨_,rfl,(Below.refl _ _).alloc (Nat.le_refl _) _,Cl.new⟩
 have hz0:w0.heap.size=w.heap.size+1:=by rw[<-hw0];simp
 rw[hw0];obtain⟨u0,hu0,bu0,zu0⟩:∃y,w0.alloc (.cells #[.slice none 0 0,.bool false,.bool false,.bool false,.bool false,.slice none 0 0,.int .i64 0,.int .i64 0,.slice none 0 0] 40)=y/\Below w0.heap.size w0 y/\y.heap[w0.heap.size]?=some (.cells md0.a 40):=⟨_,rfl,(Below.refl _ _).alloc (Nat.le_refl _) _,hq_new _ _⟩
 rw[hu0];rw[hz0]at zu0;obtain⟨nb,hnb⟩:∃y,w.heap.size=y:=⟨_,rfl⟩
 obtain⟨r,hrr⟩:∃y,w.heap.size+1=y:=⟨_,rfl⟩
 have b0:Below w.heap.size w u0:=bw0.trans (bu0.mono bw0.size);have E0:Hid (Cl u0 w.heap.size [.slice (some ⟨bH,0,none⟩) nH cH,.slice (some ⟨bR,0,none⟩) 8 cR]):=ew0.below bu0;have zr:w.heap.size+1<u0.heap.size:=(Array.getElem?_eq_some_iff.1 zu0).1;have hb0:Bytes0 u0 u0.heap.size ao n:=by
  rcases HR.out with h|⟨b,off,h1,h2,h3⟩
  ·exact .inl h
  ·exact .inr ⟨b,off,h1,Nat.lt_of_lt_of_le h2 b0.size,fun i hi=>by obtain⟨v,q1,q2,q3⟩:=h3 i hi;exact⟨v,q1,q2,(b0.cell (p:=⟨b,off+i,none⟩) h2).trans q3⟩⟩
 have hrw:w.heap.size<=r:=by omega
 have hnr:nb<r:=by omega
 rw[hrr]at zu0 zr⊢;have HNB:Hid (w.heap.size=nb):=hnb;rw[hnb]at E0⊢;have Z0:Hid (u0.heap[r]?=some (.cells md0.a 40)):=zu0;have B0:Hid (Below w.heap.size w u0):=b0;have HB0:Hid (Bytes0 u0 u0.heap.size ao n):=hb0;clear hw0 bw0 ew0 hz0 hu0 bu0 zu0 hrr hb0 hnb b0 HR;go_wp2_with fail;refine(l1New_any ao n cap u0 hn HB0.out).mono ?_;rintro e u1⟨p,rfl,hp,b1,c1⟩;have B1:Hid (Below w.heap.size w u1):=B0.out.trans (b1.mono B0.out.size);have Z1:Hid (u1.heap[r]?=some (.cells md0.a 40)):=(b1.block r zr).trans Z0.out;have E1:Hid (Cl u1 nb [.slice (some ⟨bH,0,none⟩) nH cH,.slice (some ⟨bR,0,none⟩) 8 cR]):=E0.out.below b1;have C1:Hid (Cur u1 p ao n cap):=c1;have rp:r<p:=by omega
 have lp1:p<u1.heap.size:=c1.lt;have bp1:bH≠p:=by have:=HS.out.lt;omega
 have bp2:bR≠p:=by have:=HV.out.lt;omega
 have wp1:w.heap.size<=u1.heap.size:=B1.out.size;have HS1:Hid (Arr u1 bH (nH*3) (hsF S)):=HS.out.below B1.out HS.out.lt;have HV1:Hid (Arr u1 bR (8*6) (vF V)):=HV.out.below B1.out HV.out.lt;have d0:=E1.out.2 0 (by simp);have d1:=E1.out.2 1 (by simp);simp only[List.getD_eq_getElem?_getD,List.getElem?_cons_zero,List.getElem?_cons_succ,Option.getD_some]at d0 d1;have dz:=E1.out.1;clear b1 c1 Z0 B0 HB0 E0 HS HV;go_wp2_with fail;refine(l4DrawFit_any p ao n cap bH cH nH S bR cR V u1 C1.out HS1.out HV1.out bp1 bp2 n8 hsz hgv).mono ?_;rintro e u2⟨m,rfl,hfm,d2⟩;clear d0 d1 dz;obtain⟨ra,rc,hvR⟩:=row_slD d2.R;obtain⟨ha,hcp,hvH⟩:=row_slD d2.H;have hf:=hfm.h.form;have HFL:Hid (FitL m.rs m.hs nH S V):=⟨hfm.nh,hfm.nr,hfm.h.heap,hfm.rg⟩
 clear hfm;obtain⟨vR,gz,gc,ghz,ghc,vH,pc,st,vO,rs,hs,os⟩:=m;unfold md0 at hf;dsimp only at hf hvR hvH HFL;injection hf with _ e1 e2 e3 e4 _ e6 e7 e8 _ _ e11;subst hvR hvH e1 e2 e3 e4 e6 e7 e8 e11;have W2:Hid (DW u1 p ao n cap ⟨.slice ra rs.length rc,false,false,false,false,.slice ha hs.length hcp,0,0,.slice none 0 0,rs,hs,[]⟩ u2):=d2;have Z2:Hid (u2.heap[r]?=some (.cells md0.a 40)):=hq_fw Z1.out d2.F (by omega);clear d2 Z1 E1 HS1 HV1 C1;unfold Md.a;dsimp only;go_upto_region 3 with fail;obtain⟨u3,hu3,s3⟩:∃y,u2.alloc (.cells #[.slice ra rs.length rc,.bool false,.bool false,.bool false,.bool false,.slice ha hs.length hcp,.int .i64 0,.int .i64 0,.slice none 0 0] 40)=y/\FZ u1 p ao n cap r u2.heap.size ⟨.slice ra rs.length rc,false,false,false,false,.slice ha hs.length hcp,0,0,.slice none 0 0,rs,hs,[]⟩ y:=by
  have b:Below u2.heap.size u2 (u2.alloc (.cells #[.slice ra rs.length rc,.bool false,.bool false,.bool false,.bool false,.slice ha hs.length hcp,.int .i64 0,.int .i64 0,.slice none 0 0] 40)):=(Below.refl _ _).alloc (Nat.le_refl _) _;exact⟨_,rfl,W2.out.below b,(b.block r (Array.getElem?_eq_some_iff.1 Z2.out).1).trans Z2.out,hq_new _ _,rp,W2.out.F.size⟩
 rw[hu3];obtain⟨q,hq⟩:∃y,u2.heap.size=y:=⟨_,rfl⟩
 rw[hq]at s3⊢;have S3:Hid (FZ u1 p ao n cap r q ⟨.slice ra rs.length rc,false,false,false,false,.slice ha hs.length hcp,0,0,.slice none 0 0,rs,hs,[]⟩ u3):=s3;clear hu3 hq s3 W2 Z2;obtain⟨⟨x0,x1,x2,x3,x4,x5,x6,x7,x8⟩,xf,xz⟩:=S3.out.cells;dsimp only at x0 x1 x2 x3 x4 x5 x6 x7 x8;go_upto_region 5 with fail;clear x0 x1 x2 x3 x4 x5 x6 x7 x8 xf xz;obtain⟨u4,hu4,s4⟩:∃y,(u3.setCell ⟨q,3,none⟩ (.bool fz)).setCell ⟨q,4,none⟩ (.bool fc)=y/\FZ u1 p ao n cap r q ⟨.slice ra rs.length rc,false,false,fz,fc,.slice ha hs.length hcp,0,0,.slice none 0 0,rs,hs,[]⟩ y:=⟨_,rfl,(S3.out.set ⟨.slice ra rs.length rc,false,false,fz,false,.slice ha hs.length hcp,0,0,.slice none 0 0,rs,hs,[]⟩ 3 _ rfl rfl rfl rfl rfl rfl rfl).set ⟨.slice ra rs.length rc,false,false,fz,fc,.slice ha hs.length hcp,0,0,.slice none 0 0,rs,hs,[]⟩ 4 _ rfl rfl rfl rfl rfl rfl rfl⟩
 rw[hu4];have S4:Hid (FZ u1 p ao n cap r q ⟨.slice ra rs.length rc,false,false,fz,fc,.slice ha hs.length hcp,0,0,.slice none 0 0,rs,hs,[]⟩ u4):=s4;clear hu4 s4 S3 hfz hfc;go_cut [](fun wx=>∃bz,FZ u1 p ao n cap r q ⟨.slice ra rs.length rc,bz,false,fz,fc,.slice ha hs.length hcp,0,0,.slice none 0 0,rs,hs,[]⟩ wx)
 case first=>
  obtain⟨⟨x0,x1,x2,x3,x4,x5,x6,x7,x8⟩,xf,xz⟩:=S4.out.cells;dsimp only at x0 x1 x2 x3 x4 x5 x6 x7 x8;cases fz with
  |false=>
   go_wp2_with fail;go_meet;exact⟨_,S4.out.set ⟨.slice ra rs.length rc,false,false,false,fc,.slice ha hs.length hcp,0,0,.slice none 0 0,rs,hs,[]⟩ 1 _ rfl rfl rfl rfl rfl rfl rfl⟩
  |true=>
   go_wp2_with fail;refine(l1Once_any p ao n cap 2 _ (by omega) S4.out.W.K).mono ?_;rintro e u5⟨b1,rfl,f,k⟩;have S5:Hid (FZ u1 p ao n cap r q ⟨.slice ra rs.length rc,false,false,true,fc,.slice ha hs.length hcp,0,0,.slice none 0 0,rs,hs,[]⟩ u5):=S4.out.fw f k;clear f k S4 x0 x1 x2 x3 x4 x5 x6 x7 x8 xf xz;obtain⟨⟨x0,x1,x2,x3,x4,x5,x6,x7,x8⟩,xf,xz⟩:=S5.out.cells;dsimp only at x0 x1 x2 x3 x4 x5 x6 x7 x8;go_wp2_with fail;go_meet;exact⟨b1,S5.out.set ⟨.slice ra rs.length rc,b1,false,true,fc,.slice ha hs.length hcp,0,0,.slice none 0 0,rs,hs,[]⟩ 1 _ rfl rfl rfl rfl rfl rfl rfl⟩
 case rest=>
 obtain⟨bz,s5⟩:=hcut;generalize wc=u5 at *;have S5:Hid (FZ u1 p ao n cap r q ⟨.slice ra rs.length rc,bz,false,fz,fc,.slice ha hs.length hcp,0,0,.slice none 0 0,rs,hs,[]⟩ u5):=s5;clear s5 S4;go_upto_region 6 with fail;go_cut [](fun wx=>∃bc,FZ u1 p ao n cap r q ⟨.slice ra rs.length rc,bz,bc,fz,fc,.slice ha hs.length hcp,0,0,.slice none 0 0,rs,hs,[]⟩ wx)
 case first=>
  obtain⟨⟨x0,x1,x2,x3,x4,x5,x6,x7,x8⟩,xf,xz⟩:=S5.out.cells;dsimp only at x0 x1 x2 x3 x4 x5 x6 x7 x8;cases fc with
  |false=>
   go_wp2_with fail;go_meet;exact⟨_,S5.out.set ⟨.slice ra rs.length rc,bz,false,fz,false,.slice ha hs.length hcp,0,0,.slice none 0 0,rs,hs,[]⟩ 2 _ rfl rfl rfl rfl rfl rfl rfl⟩
  |true=>
   go_wp2_with fail;refine(l1Once_any p ao n cap 2 _ (by omega) S5.out.W.K).mono ?_;rintro e u6⟨b1,rfl,f,k⟩;have S6:Hid (FZ u1 p ao n cap r q ⟨.slice ra rs.length rc,bz,false,fz,true,.slice ha hs.length hcp,0,0,.slice none 0 0,rs,hs,[]⟩ u6):=S5.out.fw f k;clear f k S5 x0 x1 x2 x3 x4 x5 x6 x7 x8 xf xz;obtain⟨⟨x0,x1,x2,x3,x4,x5,x6,x7,x8⟩,xf,xz⟩:=S6.out.cells;dsimp only at x0 x1 x2 x3 x4 x5 x6 x7 x8;go_wp2_with fail;go_meet;exact⟨b1,S6.out.set ⟨.slice ra rs.length rc,bz,b1,fz,true,.slice ha hs.length hcp,0,0,.slice none 0 0,rs,hs,[]⟩ 2 _ rfl rfl rfl rfl rfl rfl rfl⟩
 case rest=>
 obtain⟨bc,s6⟩:=hcut;generalize wc=u6 at *;have S6:Hid (FZ u1 p ao n cap r q ⟨.slice ra rs.length rc,bz,bc,fz,fc,.slice ha hs.length hcp,0,0,.slice none 0 0,rs,hs,[]⟩ u6):=s6;clear s6 S5;obtain⟨⟨x0,x1,x2,x3,x4,x5,x6,x7,x8⟩,xf,xz⟩:=S6.out.cells;dsimp only at x0 x1 x2 x3 x4 x5 x6 x7 x8;obtain⟨z0,z1,z2,z3,z4,z5,z6,z7,z8,zf,zz⟩:=z9 S6.out.Z;have hne:q≠r:=by have:=S6.out.wq;omega
 have BL:Hid (Below w.heap.size w u6):=S6.out.W.F.below B1.out (by omega) (by omega);have ML6:Hid (ML u1.heap.size ⟨.slice ra rs.length rc,bz,bc,fz,fc,.slice ha hs.length hcp,0,0,.slice none 0 0,rs,hs,[]⟩ u6):=S6.out.W.ml;have hru:r<u1.heap.size:=by omega
 clear S6 B1;go_wp2;refine bodyPost_ret (v:=.agg #[.slice ra rs.length rc,.bool bz,.bool bc,.bool fz,.bool fc,.slice ha hs.length hcp,.int .i64 0,.int .i64 0,.slice none 0 0]) (by simp[results,Tryz.results7,go_sem,z0,z1,z2,z3,z4,z5,z6,z7,z8]) rfl ⟨ra,rc,rs,ha,hcp,hs,bz,bc,by rw[HZC.out.1,HZC.out.2],HFL.out,?_,?_⟩
 ·rw[HZC.out.1,HZC.out.2]
  exact(((((((((ML6.out.putlt hru _ _).putlt hru _ _).putlt hru _ _).putlt hru _ _).putlt hru _ _).putlt hru _ _).putlt hru _ _).putlt hru _ _).putlt hru _ _).dn wp1
 ·(iterate 9 refine Below.setCell ?_ hrw _)
  exact BL.out
end Go.Proofs.YtbahofiiaodpdaaGreat
namespace Go.Proofs.YtbahofiiaodpdaaGreat
open Go.RowKit
section
variable{nH nR:Nat}{S:Nat->HS}{V0 V:Nat->VV}{z c op d ra rb imm h:Int}
theorem trE_zero(e:trE nH S nR V0 8 V z c op d ra rb imm h=0):absOK nH S nR V0 8 V z c=true/\implIns op d ra rb imm h=true/\op<=28:=by
 unfold trE at e;by_cases q:absOK nH S nR V0 8 V z c=true/\implIns op d ra rb imm h=true/\op<=28
 ·exact q
 ·rw[if_neg q]at e;omega
theorem sig_sizes(e:sigOK nH S nR V0=true):nH<=8/\∀i,i<nH->1<=(S i).size/\(S i).size<=4096:=by
 unfold sigOK sigAt at e;simp only[Bool.and_eq_true,decide_eq_true_eq,List.all_eq_true,List.mem_range]at e;exact⟨e.1.1,e.1.2⟩
theorem gv_zV{n:Int}:GV zV n:=Or.inl ⟨rfl,by decide,by decide,rfl,rfl,rfl⟩
theorem gv_opA{i:Nat}{n:Int}(g:GV (V i) n):GV (opA V op i) n:=by
 unfold opA;split
 ·exact g
 ·exact gv_zV
theorem gv_opB{i:Nat}{n:Int}(g:GV (V i) n):GV (opB V op i) n:=by
 unfold opB;split
 ·exact g
 ·exact gv_zV
theorem gv_trR{a b:VV}{sec:Bool}{fl:Int}{g:HS}{n:Int}(ha:GV a n)(hb:GV b n):GV (trR op imm a b sec fl g) n:=by
 unfold trR;split
 ·exact gv_pick ha hb
 ·split
  ·exact gv_num _ _ _
  ·split
   ·exact gv_num _ _ _
   ·exact gv_res ha hb
theorem fl_trZ(x:Int)(hx:0<=x/\x<=2):0<=trZ V z c op ra rb x/\trZ V z c op ra rb x<=2:=by
 unfold trZ;split
 ·split<;>omega
 ·exact hx
theorem out_ok(hok:absOK nH S nR V0 8 V z c=true)(hik:implIns op d ra rb imm h=true)(o28:op<=28):absOK nH S nR V0 8 (trW S V z c op d ra rb imm h) (trZ V z c op ra rb z) (trZ V z c op ra rb c)=true:=by
 obtain⟨_,_,G,hz,hc⟩:=abs_iff.1 hok;obtain⟨o1,d0,d7,ra0,ra7,rb0,rb7,h0,h7,_⟩:=ins_nats hik o28;refine abs_all hok ?_ (fl_trZ z hz) (fl_trZ c hc);unfold trW;split
 ·exact gv_upd G (gv_trR (gv_opA (G _ (by omega))) (gv_opB (G _ (by omega))))
 ·exact G
end
def prg2(x:IV)(i j:Nat):Int:=if i=0 then(if j=0 then x.o else if j=1 then x.d else if j=2 then x.a else if j=3 then x.b else if j=4 then x.i else x.h)else if j=0 then 34 else 0
theorem prg2_ok{x:IV}(hik:implIns x.o x.d x.a x.b x.i x.h=true)(o28:x.o<=28):flatOK 2 (prg2 x)=true:=by
 have e0:flatAt 2 (prg2 x) 0=true:=by
  unfold flatAt;have e1:insOK (prg2 x) 0=true:=hik;have e2:jumpB (prg2 x 0 0)=false:=by
   show jumpB x.o=false;unfold jumpB;simp;omega
  rw[e1,e2];rfl
 have e1:flatAt 2 (prg2 x) 1=true:=by
  unfold flatAt;rw[show insOK (prg2 x) 1=true from(by show implIns 34 0 0 0 0 0=true;kernel_rfl),show jumpB (prg2 x 1 0)=false from(by show jumpB 34=false;kernel_rfl)];rfl
 rw[flat_end (by omega) (by omega) (fun i hi=>by
  have:i=0∨i=1:=by omega
  rcases this with rfl|rfl
  ·exact e0
  ·exact e1)]
 rfl
section
variable{nH nR:Nat}{S:Nat->HS}{V0 V:Nat->VV}{z c:Int}{x:IV}{M:MV}
theorem step_two(he:trE nH S nR V0 8 V z c x.o x.d x.a x.b x.i x.h=0)(ok:M.Ok)(p:AsV nH S V z c M)(hpc:M.pc=0)(hst:M.st=0):
 (stepM 2 (prg2 x) M).st=0/\(stepM 2 (prg2 x) M).Ok/\AsV nH S (trW S V z c x.o x.d x.a x.b x.i x.h) (trZ V z c x.o x.a x.b z) (trZ V z c x.o x.a x.b c) (stepM 2 (prg2 x) M):=by
 obtain⟨hok,hik,o28⟩:=trE_zero he;obtain⟨o1,d0,d7,ra0,ra7,rb0,rb7,h0,h7,_⟩:=ins_nats hik o28;obtain⟨xo,xd,xa,xb,xi,xh⟩:=x;dsimp only at *;obtain⟨di,rfl⟩:∃k:Nat,xd=(k:Int):=⟨xd.toNat,by omega⟩
 obtain⟨ia,rfl⟩:∃k:Nat,xa=(k:Int):=⟨xa.toNat,by omega⟩
 obtain⟨ib,rfl⟩:∃k:Nat,xb=(k:Int):=⟨xb.toNat,by omega⟩
 obtain⟨q,rfl⟩:∃k:Nat,xh=(k:Int):=⟨xh.toNat,by omega⟩
 obtain⟨M',e1,e2,e3⟩:=step_sound hok hik o28 (by omega) (by omega) ok p he (M.pc+1);have hk:=exec_ok ok xo.toNat di ia ib q xi (M.pc+1) (show ia<8 by omega) (show ib<8 by omega);rw[e1]at hk;have es:stepM 2 (prg2 ⟨xo,(di:Int),(ia:Int),(ib:Int),xi,(q:Int)⟩) M={M' with pc:=M.pc+1}:=by
  unfold stepM;rw[if_neg (by rw[hpc];decide),hpc];rw[hpc]at e1;show(match exec xo.toNat ((di:Int)).toNat ((ia:Int)).toNat ((ib:Int)).toNat ((q:Int)).toNat xi M (0+1)with|.inl (M',nx)=>{M' with pc:=nx}|.inr M'=>M'.fault)=_;rw[Int.toNat_natCast,Int.toNat_natCast,Int.toNat_natCast,Int.toNat_natCast,e1]
 rw[es];have hk':M'.Ok:=hk;exact⟨e2.trans hst,⟨hk'.reg,hk'.heaps,hk'.heap,hk'.dat⟩,⟨e3.nh,e3.sz,e3.rg,e3.hz,e3.hc⟩⟩
end
def forM(rs:List Int)(hs:List HD)(bz bc hz hc:Bool):MV:={R:=rL rs,z:=bz,c:=bc,hz:=hz,hc:=hc,nH:=hs.length,Hp:=hL hs,pc:=0,st:=0,nO:=0,K:=kL [],V:=vL []}
theorem forM_as{rs:List Int}{hs:List HD}{nH:Nat}{S:Nat->HS}{V:Nat->VV}{z c:Int}{bz bc:Bool}(h:FitL rs hs nH S V)(z0:0<=z)(c0:0<=c):AsV nH S V z c (forM rs hs bz bc (decide (0<z)) (decide (0<c))):=by
 refine⟨h.nh,fun i hi=>h.heap i (by rw[h.nh];exact hi),fun i hi=>h.rg i hi,?_,?_⟩
 ·by_cases e:z=0
  ·exact .inl e
  ·exact .inr (decide_eq_true (by omega))
 ·by_cases e:c=0
  ·exact .inl e
  ·exact .inr (decide_eq_true (by omega))
end Go.Proofs.YtbahofiiaodpdaaGreat
