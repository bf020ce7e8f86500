import Derived.Test.YtiphbmhoifggiaaGreatDoorPsMath
import Derived.Deep.DeepCutAuto
set_option maxHeartbeats 32000000
set_option maxRecDepth 20000
namespace Go.Proofs.YtiphbmhoifggiaaGreatDoor
open Go.RowKit
theorem condText_any(c:Int)(w:World)(h1:1<=c)(h2:c<=4):Calls Tryz.prog 44 #[.int .i64 c] w fun e w'=>e=.returned (.string (bs (cndL c)))/\Below w.heap.size w w':=by
 obtain rfl|rfl|rfl|rfl:c=1∨c=2∨c=3∨c=4:=by omega
 all_goals
  go_enter Tryz.func44,Tryz.ntmps44;go_wp2;go_ret;exact⟨rfl,(Below.refl _ _).alloc (Nat.le_refl _) _⟩
theorem st_cnd{s:SV}{procs:Int}(h:stOK s procs=true)(k:s.k=2∨s.k=3):1<=s.cond/\s.cond<=4:=by
 unfold stOK at h;rcases k with k|k
 ·rw[if_neg (by omega),if_pos k]at h
  have:=of_decide_eq_true h;omega
 ·rw[if_neg (by omega),if_neg (by omega),if_pos k]at h
  have:=of_decide_eq_true h;omega
theorem cnd_len(c:Int):(cndL c).length<=2:=by
 unfold cndL;repeat' split
 all_goals decide
def ShowC(L:Nat->SV)(b n:Nat)(i te:Nat):Prop:=
 ∀(off len cap':Nat)(w:World),len=te-i->(0<len->off=i*11)->len<=cap'->Arr w b (n*11) (stF L)->Calls Tryz.prog 20 #[.slice (some ⟨b,off,none⟩) len cap'] w fun e w'=>e=.returned (.string (bs (prB L i te)))/\Below w.heap.size w w'
theorem l6Show_go(L:Nat->SV)(b n i te:Nat)(me procs deep depth:Int)(hit:i<=te)(hte:te<=n)(ln:n<=500)(hpr:procs<=100)(hck:(chk L me procs deep i te depth).1=0)
 (hI:∀i' te' d,i<=i'->i'<=te'->te'<=te->te'-i'<te-i->(chk L me procs deep i' te' d).1=0->ShowC L b n i' te'):ShowC L b n i te:=by
 intro off len cap' w hlen hoff hcap hA
 have hl1:len<=te-i:=by omega
 have hl2:te-i<=len:=by omega
 have HOFF:Hid (0<len->off=i*11):=hoff
 have HI:Hid _:=hI
 have HCK:Hid ((chk L me procs deep i te depth).1=0):=hck
 have HA:Hid (Arr w b (n*11) (stF L)):=hA
 have HPR:Hid (procs<=100):=hpr
 have lb:=hA.lt
 obtain⟨all,hall⟩:∃x,prB L i te=x:=⟨_,rfl⟩
 rw[hall]
 have HALL:Hid (prB L i te=all):=hall
 have hal:Hid (all.length<=300000):=(by
  have:=prB_len hpr _ i te depth (Nat.le_refl _) hit hck
  rw[hall]at this
  omega:all.length<=300000)
 clear hlen hoff hI hck hA hall hpr
 go_enter Tryz.func20,Tryz.ntmps20
 go_wp2_with fail
 go_loopw [3,4](fun ov iv wr=>∃(j:Nat)(done:List UInt8),i+j<=te/\iv=.int .i64 (j:Int)/\ov=.string (bs done)/\Below w.heap.size w wr/\done++prB L (i+j) te=all/\(chk L me procs deep (i+j) te depth).1=0)(fun _ iv _=>len-(intOf iv).toNat)
 case atStart=>exact⟨0,[],by omega,rfl,rfl,Below.refl _ _,by rw[Nat.add_zero];exact HALL.out,by rw[Nat.add_zero];exact HCK.out⟩
 case round=>
  obtain⟨j,done,hj,rfl,hov,hb,hd,hc⟩:=hrel
  obtain⟨s,hs⟩:∃s,bs done=s:=⟨_,rfl⟩
  rw[hs]at hov
  subst hov
  have HS:Hid (bs done=s):=hs
  have B2:Hid (Below w.heap.size w wr):=hb
  have HD:Hid (done++prB L (i+j) te=all):=hd
  have HK:Hid ((chk L me procs deep (i+j) te depth).1=0):=hc
  have hsz:s.size<=300000:=by
   have h1:=hal.out
   rw[<-hd,List.length_append]at h1
   rw[<-hs,bs_size]
   omega
  clear hb hd hc hs
  by_cases hlt:i+j<te
  rotate_left
  ·have hlt':¬(j:Int)<(len:Int):=by omega
   have hdone:done=all:=by have:=HD.out;rw[prB_end hlt,List.append_nil]at this;exact this
   go_wp2
   go_ret
   exact⟨by rw[<-HS.out,hdone];rfl,B2.out⟩
  have hlt':(j:Int)<(len:Int):=by omega
  have hof:off=i*11:=HOFF.out (by omega)
  subst hof
  clear HOFF
  obtain⟨p,hp⟩:∃x,i+j=x:=⟨_,rfl⟩
  rw[hp]at hlt
  have HP:Hid (i+j=p):=hp
  have A2:Hid (Arr wr b (n*11) (stF L)):=HA.out.below B2.out lb
  obtain⟨s0,s1,s2,s3,s4,s5,s6,s7,s8,s9,s10⟩:=st_at (n:=n) A2.out p (by omega)
  rw[show p*11=i*11+j*11 by omega]at s0 s1 s2 s3 s4 s5 s6 s7 s8 s9 s10
  rw[hp]at HD HK
  clear hp
  go_upto_region 5 with fail
  clear s0 s1 s2 s3 s4 s5 s6 s7 s8 s9 s10
  obtain⟨u1,hu1,hb1,hc1⟩:∃x,wr.alloc (.cells #[.int .i64 (L p).k,.int .i64 (L p).op,.int .i64 (L p).d,.int .i64 (L p).a,.int .i64 (L p).b,.int .i64 (L p).imm,.int .i64 (L p).h,.int .i64 (L p).cond,.int .i64 (L p).thn,.int .i64 (L p).els,.int .i64 (L p).proc] 99)=x/\Below wr.heap.size wr x/\Cl x wr.heap.size [.int .i64 (L p).k,.int .i64 (L p).op,.int .i64 (L p).d,.int .i64 (L p).a,.int .i64 (L p).b,.int .i64 (L p).imm,.int .i64 (L p).h,.int .i64 (L p).cond,.int .i64 (L p).thn,.int .i64 (L p).els,.int .i64 (L p).proc]:=⟨_,rfl,(Below.refl _ _).alloc (Nat.le_refl _) _,Cl.new⟩
  rw[hu1]
  have wz:=B2.out.size
  obtain⟨sb,hsb⟩:∃x,wr.heap.size=x:=⟨_,rfl⟩
  rw[hsb]at hb1 hc1 wz⊢
  have S1:Hid (Cl u1 sb [.int .i64 (L p).k,.int .i64 (L p).op,.int .i64 (L p).d,.int .i64 (L p).a,.int .i64 (L p).b,.int .i64 (L p).imm,.int .i64 (L p).h,.int .i64 (L p).cond,.int .i64 (L p).thn,.int .i64 (L p).els,.int .i64 (L p).proc]):=hc1
  have B3:Hid (Below w.heap.size w u1):=B2.out.trans (hb1.mono wz)
  have sl:=hc1.1
  clear hu1 hb1 hc1 B2 hsb A2
  obtain⟨sok,hnt,k1,k2,k3⟩:=chk_next HK.out hlt
  have HK1:Hid _:=k1
  have HK2:Hid _:=k2
  have HK3:Hid _:=k3
  have HSOK:Hid (stOK (L p) procs=true):=sok
  obtain⟨tp,ep⟩:=st_pos sok
  clear k1 k2 k3 sok HK
  obtain⟨a,ha⟩:∃x:Nat,(L p).thn=(x:Int):=⟨(L p).thn.toNat,by omega⟩
  obtain⟨e',he'⟩:∃x:Nat,(L p).els=(x:Int):=⟨(L p).els.toNat,by omega⟩
  have HA':Hid ((L p).thn=(a:Int)/\(L p).thn.toNat=a):=⟨ha,by omega⟩
  have HB':Hid ((L p).els=(e':Int)/\(L p).els.toNat=e'):=⟨he',by omega⟩
  rw[HA'.out.2,HB'.out.2]at hnt
  have HNT:Hid (p+1+(L p).thn.toNat+(L p).els.toNat<=te):=(by rw[HA'.out.2,HB'.out.2];exact hnt:p+1+(L p).thn.toNat+(L p).els.toNat<=te)
  have hij:=HP.out
  have HKA:Hid ((chk L me procs deep (p+1) (p+1+a) (depth+1)).1=0):=(by have h:=HK1.out;rw[HA'.out.2]at h;exact h:(chk L me procs deep (p+1) (p+1+a) (depth+1)).1=0)
  have HKB:Hid ((chk L me procs deep (p+1+a) (p+1+a+e') (depth+1)).1=0):=(by have h:=HK2.out;rw[HA'.out.2,HB'.out.2]at h;exact h:(chk L me procs deep (p+1+a) (p+1+a+e') (depth+1)).1=0)
  have HKC:Hid ((chk L me procs deep (p+1+a+e') te depth).1=0):=(by have h:=HK3.out;rw[HA'.out.2,HB'.out.2]at h;exact h:(chk L me procs deep (p+1+a+e') te depth).1=0)
  have lz:a<=500:=by omega
  have lz2:e'<=500:=by omega
  obtain⟨c0,c1,c2,c3,c4,c5,c6,c7,c8,c9,c10⟩:=st_cl S1.out
  rw[ha]at c8
  rw[he']at c9
  have AU:Hid (Arr u1 b (n*11) (stF L)):=HA.out.below B3.out lb
  have FIN:Hid (∀(x:List UInt8),x++prB L (p+1+a+e') te=prB L p te->(done++x)++prB L (i+(j+1+a+e')) te=all/\(bs (done++x)).size<=300000):=(fun x hx=>by
   have h1:(done++x)++prB L (i+(j+1+a+e')) te=all:=by
    rw[show i+(j+1+a+e')=p+1+a+e' by omega,List.append_assoc,hx]
    exact HD.out
   refine⟨h1,?_⟩
   have h2:=hal.out
   rw[<-h1,List.length_append]at h2
   rw[bs_size]
   omega:∀(x:List UInt8),x++prB L (p+1+a+e') te=prB L p te->(done++x)++prB L (i+(j+1+a+e')) te=all/\(bs (done++x)).size<=300000)
  clear ha he' tp ep HK1 HK2 HK3
  rcases st_one HSOK.out with hk|hk|hk|hk
  ·have e1:((L p).k==1)=true:=by simp[hk]
   obtain⟨y2,y3⟩:=st_flat HSOK.out (.inl hk)
   have ea:a=0:=by have:=HA'.out.1;omega
   have ee:e'=0:=by have:=HB'.out.1;omega
   obtain⟨i1,i2,i3,i4,i5,i6,i7⟩:=ins_small (st_ins HSOK.out hk).1
   have hll:=line_len (d:=1) (st_ins HSOK.out hk).1
   obtain⟨ls,hls⟩:∃x,lineS 1 (L p).op (L p).d (L p).a (L p).b (L p).imm (L p).h=x:=⟨_,rfl⟩
   have HLS:Hid (lineS 1 (L p).op (L p).d (L p).a (L p).b (L p).imm (L p).h=ls):=hls
   rw[hls]at hll
   have HX:Hid ((insT (L p)++[10])++prB L (p+1+a+e') te=prB L p te):=(by
    rw[prB_1 hlt HNT.out hk,HA'.out.2,HB'.out.2]:(insT (L p)++[10])++prB L (p+1+a+e') te=prB L p te)
   have F1:=FIN.out _ HX.out
   have HF1:Hid _:=F1.1
   have HSTR:Hid (s++ls++⟨#[10]⟩=bs (done++(insT (L p)++[10]))):=(by
    rw[<-bs_app,HS.out,<-bs_app,ByteArray.append_assoc]
    unfold insT
    rw[HLS.out,bs_list]
    rfl:s++ls++⟨#[10]⟩=bs (done++(insT (L p)++[10])))
   have z1:¬9223372036854775807<s.size+ls.size:=by omega
   have z2:¬9223372036854775807<s.size+ls.size+1:=by omega
   clear hk y2 y3 hls F1
   go_wp2_with fail
   refine(show_any (L p).op (L p).d (L p).a (L p).b (L p).imm (L p).h 1 _ i1 i2 (.inr rfl) (by omega) (by omega) (by omega) (by omega) (by omega)).mono ?_
   rintro e u2⟨rfl,hb2⟩
   rw[HLS.out]
   have B4:Hid (Below w.heap.size w u2):=B3.out.trans (hb2.mono B3.out.size)
   have S2:Hid _:=S1.out.below hb2
   clear hb2 c0 c1 c2 c3 c4 c5 c6 c7 c8 c9 c10 B3
   obtain⟨c0,c1,c2,c3,c4,c5,c6,c7,c8,c9,c10⟩:=st_cl S2.out
   rw[HA'.out.1]at c8
   rw[HB'.out.1]at c9
   go_wp2_with fail
   go_roundw
   case rel=>exact⟨j+1+a+e',_,by omega,by go_num,by rw[<-HSTR.out],B4.out,HF1.out,by rw[show i+(j+1+a+e')=p+1+a+e' by omega];exact HKC.out⟩
   case measure=>simp[intOf];omega
  ·have e1:((L p).k==1)=false:=by simp[hk]
   have e2:((L p).k==4)=false:=by simp[hk]
   have e3:((L p).k==3)=false:=by simp[hk]
   have hcd:=st_cnd HSOK.out (.inl hk)
   obtain⟨cd,hcd'⟩:∃x,bs (cndL (L p).cond)=x:=⟨_,rfl⟩
   have HCD:Hid (bs (cndL (L p).cond)=cd):=hcd'
   have cdz:cd.size<=2:=by rw[<-hcd',bs_size];exact cnd_len _
   obtain⟨xl,hxl⟩:∃x,prB L (p+1) (p+1+a)=x:=⟨_,rfl⟩
   have HXL:Hid (prB L (p+1) (p+1+a)=xl):=hxl
   obtain⟨xs,hxs⟩:∃x,bs xl=x:=⟨_,rfl⟩
   have HXS:Hid (bs xl=xs):=hxs
   obtain⟨yl,hyl⟩:∃x,prB L (p+1+a) (p+1+a+e')=x:=⟨_,rfl⟩
   have HYL:Hid (prB L (p+1+a) (p+1+a+e')=yl):=hyl
   obtain⟨ys,hys⟩:∃x,bs yl=x:=⟨_,rfl⟩
   have HYS:Hid (bs yl=ys):=hys
   have HX:Hid ((hdT (L p)++xl++(if 0<(L p).els then elseT++yl else[])++endT)++prB L (p+1+a+e') te=prB L p te):=(by
    rw[prB_c hlt HNT.out (.inl hk),HA'.out.2,HB'.out.2,hxl,hyl]:(hdT (L p)++xl++(if 0<(L p).els then elseT++yl else[])++endT)++prB L (p+1+a+e') te=prB L p te)
   have F1:=FIN.out _ HX.out
   have HF1:Hid _:=F1.1
   have hxz:xs.size<=300000:=by
    have h2:=F1.2
    rw[bs_size]at h2
    simp only[List.length_append]at h2
    rw[<-hxs,bs_size];omega
   have hyz:ys.size<=300000:=by
    have h2:=prB_len HPR.out _ (p+1+a) (p+1+a+e') (depth+1) (Nat.le_refl _) (by omega) HKB.out
    rw[hyl]at h2
    rw[<-hys,bs_size];omega
   have HHD:Hid (hdT (L p)=(⟨#[105,102,32]⟩:ByteArray).data.toList++cndL (L p).cond++[10]):=(by unfold hdT;rw[if_neg (by omega)]:hdT (L p)=(⟨#[105,102,32]⟩:ByteArray).data.toList++cndL (L p).cond++[10])
   have z1:¬9223372036854775807<s.size+3:=by omega
   have z2:¬9223372036854775807<s.size+3+cd.size:=by omega
   have z3:¬9223372036854775807<s.size+3+cd.size+1:=by omega
   have z4:¬9223372036854775807<s.size+3+cd.size+1+xs.size:=by omega
   clear F1 hcd' hxl hxs hyl hys hk
   obtain⟨j1,hj1⟩:∃x,x=j+1:=⟨_,rfl⟩
   obtain⟨j2,hj2⟩:∃x,x=j+1+a:=⟨_,rfl⟩
   obtain⟨j3,hj3⟩:∃x,x=j+1+a+e':=⟨_,rfl⟩
   have wa:IntKind.i64.wrap ((j:Int)+1)=(j1:Int):=by rw[IntKind.wrap_i64]<;>omega
   have wb:IntKind.i64.wrap ((j1:Int)+(a:Int))=(j2:Int):=by rw[IntKind.wrap_i64]<;>omega
   have wc:IntKind.i64.wrap ((j2:Int)+(e':Int))=(j3:Int):=by rw[IntKind.wrap_i64]<;>omega
   have g1:j2<=cap':=by omega
   have g2:(j1:Int)<=max (j2:Int) 0:=by omega
   obtain⟨o1,ho1,ho1'⟩:∃x,(if cap'=j1 then some (⟨b,i*11,none⟩:Addr)else some (⟨b,i*11+j1*11,none⟩:Addr))=some (⟨b,x,none⟩:Addr)/\(0<a->x=(p+1)*11):=by
    by_cases h:cap'=j1
    ·exact⟨_,if_pos h,fun h'=>by omega⟩
    ·exact⟨_,if_neg h,fun h'=>by omega⟩
   have HO1:Hid (0<a->o1=(p+1)*11):=ho1'
   have HJ:Hid (j1=j+1/\j2=j+1+a/\j3=j+1+a+e'):=⟨hj1,hj2,hj3⟩
   have j12:j1<=j2:=by omega
   have j23:j2<=j3:=by omega
   clear ho1' hj1 hj2 hj3
   go_upto_region 9 with fail
   have r7:∀w',Below u1.heap.size u1 w'->w'.cell? ⟨sb,7,none⟩=some (.int .i64 (L p).cond):=fun w' h=>(h.cell (p:=⟨sb,7,none⟩) sl).trans c7
   have r8:∀w',Below u1.heap.size u1 w'->w'.cell? ⟨sb,8,none⟩=some (.int .i64 (a:Int)):=fun w' h=>(h.cell (p:=⟨sb,8,none⟩) sl).trans c8
   have R8:Hid (∀w',Below u1.heap.size u1 w'->w'.cell? ⟨sb,8,none⟩=some (.int .i64 (a:Int))):=r8
   have R9:Hid (∀w',Below u1.heap.size u1 w'->w'.cell? ⟨sb,9,none⟩=some (.int .i64 (e':Int))):=fun w' h=>(h.cell (p:=⟨sb,9,none⟩) sl).trans c9
   clear c0 c1 c2 c3 c4 c5 c6 c7 c8 c9 c10
   go_cut [3,4,5](fun s3 s4 s5 wx=>s3=.string (s++⟨#[105,102,32]⟩++cd++⟨#[10]⟩++xs)/\s4=.int .i64 (j:Int)/\s5=.pointer (some ⟨sb,0,none⟩)/\Below u1.heap.size u1 wx)
   case first=>
    refine wp_region_held_drew (S:=fun w'=>Below u1.heap.size u1 w') (by kernel_rfl) (Below.refl _ _).drew (fun _=>?_)
    refine wpAnyH_tk 0 ?k1v rfl ?k1y ?k1r
    case k1y=>(intro w hSw;(try dsimp only at hSw);go_simp;try with_reducible rfl)
    try simp only[Act.put,List.getElem_toArray,List.getElem_cons_zero,List.setIfInBounds_toArray,List.set_cons_zero,List.set_cons_succ]
    refine wpAnyH_tk 1 ?k2v rfl ?k2y ?k2r
    case k2y=>(intro w hSw;(try dsimp only at hSw);go_simp;try with_reducible rfl)
    try simp only[Act.put,List.getElem_toArray,List.getElem_cons_zero,List.getElem_cons_succ,List.setIfInBounds_toArray,List.set_cons_zero,List.set_cons_succ]
    refine wpAnyH_tk 2 ?k3v rfl ?k3y ?k3r
    case k3y=>(intro w hSw;(try dsimp only at hSw);go_simp;try with_reducible rfl)
    try simp only[Act.put,List.getElem_toArray,List.getElem_cons_zero,List.getElem_cons_succ,List.setIfInBounds_toArray,List.set_cons_zero,List.set_cons_succ]
    refine wpAnyH_tk 3 ?k4v rfl ?k4y ?k4r
    case k4y=>(intro w hSw;(try dsimp only at hSw);go_simp;try with_reducible rfl)
    try simp only[Act.put,List.getElem_toArray,List.getElem_cons_zero,List.getElem_cons_succ,List.setIfInBounds_toArray,List.set_cons_zero,List.set_cons_succ]
    refine wpAnyH_tk 4 ?k5v rfl ?k5y ?k5r
    case k5y=>(intro w hSw;(try dsimp only at hSw);go_simp;try with_reducible rfl)
    try simp only[Act.put,List.getElem_toArray,List.getElem_cons_zero,List.getElem_cons_succ,List.setIfInBounds_toArray,List.set_cons_zero,List.set_cons_succ]
    refine wpAnyH_tk 8 ?k6v rfl ?k6y ?k6r
    case k6y=>(intro w hSw;(try dsimp only at hSw);go_simp;try with_reducible rfl)
    try simp only[Act.put,List.getElem_toArray,List.getElem_cons_zero,List.getElem_cons_succ,List.setIfInBounds_toArray,List.set_cons_zero,List.set_cons_succ]
    refine wpAnyH_tk 9 ?k7v rfl ?k7y ?k7r
    case k7y=>(intro w hSw;(try dsimp only at hSw);go_simp;try with_reducible rfl)
    try simp only[Act.put,List.getElem_toArray,List.getElem_cons_zero,List.getElem_cons_succ,List.setIfInBounds_toArray,List.set_cons_zero,List.set_cons_succ]
    refine wpAnyH_tk 10 ?k8v rfl ?k8y ?k8r
    case k8y=>(intro w hSw;(try dsimp only at hSw);go_simp;try with_reducible rfl)
    try simp only[Act.put,List.getElem_toArray,List.getElem_cons_zero,List.getElem_cons_succ,List.setIfInBounds_toArray,List.set_cons_zero,List.set_cons_succ]
    refine wpAnyH_tk 11 ?k9v rfl ?k9y ?k9r
    case k9y=>(intro w hSw;(try dsimp only at hSw);go_simp;try with_reducible rfl)
    try simp only[Act.put,List.getElem_toArray,List.getElem_cons_zero,List.getElem_cons_succ,List.setIfInBounds_toArray,List.set_cons_zero,List.set_cons_succ]
    refine wpAnyH_tk 12 ?k10v rfl ?k10y ?k10r
    case k10y=>(intro w hSw;(try dsimp only at hSw);go_simp;try with_reducible rfl)
    try simp only[Act.put,List.getElem_toArray,List.getElem_cons_zero,List.getElem_cons_succ,List.setIfInBounds_toArray,List.set_cons_zero,List.set_cons_succ]
    refine wpAnyH_tk 13 ?k11v rfl ?k11y ?k11r
    case k11y=>(intro w hSw;(try dsimp only at hSw);go_simp;try with_reducible rfl)
    try simp only[Act.put,List.getElem_toArray,List.getElem_cons_zero,List.getElem_cons_succ,List.setIfInBounds_toArray,List.set_cons_zero,List.set_cons_succ]
    refine wpAnyH_tk 14 ?k12v rfl ?k12y ?k12r
    case k12y=>(intro w hSw;(try dsimp only at hSw);go_simp;try with_reducible rfl)
    try simp only[Act.put,List.getElem_toArray,List.getElem_cons_zero,List.getElem_cons_succ,List.setIfInBounds_toArray,List.set_cons_zero,List.set_cons_succ]
    refine wpAnyH_tk 15 ?k13v rfl ?k13y ?k13r
    case k13y=>(intro w hSw;(try dsimp only at hSw);go_simp;try with_reducible rfl)
    try simp only[Act.put,List.getElem_toArray,List.getElem_cons_zero,List.getElem_cons_succ,List.setIfInBounds_toArray,List.set_cons_zero,List.set_cons_succ]
    refine wpAnyH_tk 16 ?k14v rfl ?k14y ?k14r
    case k14y=>(intro w hSw;(try dsimp only at hSw);go_simp;try with_reducible rfl)
    try simp only[Act.put,List.getElem_toArray,List.getElem_cons_zero,List.getElem_cons_succ,List.setIfInBounds_toArray,List.set_cons_zero,List.set_cons_succ]
    obtain⟨v2,hv2,hbd⟩:∃v,u1.drew=v/\Below u1.heap.size u1 v:=⟨_,rfl,(Below.refl _ _).drew⟩
    rw[hv2]
    clear hv2
    refine wpAnyH_ready (rs:=[5]) (by kernel_rfl) (by simp) ?_
    refine AllReadyH.cons rfl (fun KK hK=>?_) AllReadyH.nil
    go_simp
    refine(condText_any (L p).cond _ hcd.1 hcd.2).mono ?_
    rintro e v3⟨rfl,hb3⟩
    rw[HCD.out]
    have hB3:Below u1.heap.size u1 v3:=hbd.trans (hb3.mono hbd.size)
    refine hK.out _ _ hB3 (fun _=>?_)
    clear hK KK hb3
    try simp only[Act.put,List.getElem_toArray,List.getElem_cons_zero,List.getElem_cons_succ,List.setIfInBounds_toArray,List.set_cons_zero,List.set_cons_succ]
    refine wpAnyH_tk 6 ?k15v rfl ?k15y ?k15r
    case k15y=>(intro w hSw;(try dsimp only at hSw);go_simp;try with_reducible rfl)
    try simp only[Act.put,List.getElem_toArray,List.getElem_cons_zero,List.getElem_cons_succ,List.setIfInBounds_toArray,List.set_cons_zero,List.set_cons_succ]
    refine wpAnyH_tk 7 ?k16v rfl ?k16y ?k16r
    case k16y=>(intro w hSw;(try dsimp only at hSw);go_simp;try with_reducible rfl)
    try simp only[Act.put,List.getElem_toArray,List.getElem_cons_zero,List.getElem_cons_succ,List.setIfInBounds_toArray,List.set_cons_zero,List.set_cons_succ]
    refine wpAnyH_ready (rs:=[17]) (by kernel_rfl) (by simp) ?_
    refine AllReadyH.cons rfl (fun KK hK=>?_) AllReadyH.nil
    go_simp
    obtain⟨q1,q2,q3⟩:=HJ.out
    refine(HI.out (p+1) (p+1+a) (depth+1) (by omega) (by omega) (by omega) (by omega) HKA.out o1 (j2-j1) (cap'-j1) v3 (by omega) (fun h=>HO1.out (by omega)) (by omega) (AU.out.below hB3 (by have:=B3.out.size;omega))).mono ?_
    rintro e v4⟨rfl,hb4⟩
    rw[HXL.out,HXS.out]
    have hB4:Below u1.heap.size u1 v4:=hB3.trans (hb4.mono hB3.size)
    refine hK.out _ _ hB4 (fun _=>?_)
    clear hK KK hb4 q1 q2 q3
    try simp only[Act.put,List.getElem_toArray,List.getElem_cons_zero,List.getElem_cons_succ,List.setIfInBounds_toArray,List.set_cons_zero,List.set_cons_succ]
    refine wpAnyH_tk 18 ?k17v rfl ?k17y ?k17r
    case k17y=>(intro w hSw;(try dsimp only at hSw);go_simp;try with_reducible rfl)
    try simp only[Act.put,List.getElem_toArray,List.getElem_cons_zero,List.getElem_cons_succ,List.setIfInBounds_toArray,List.set_cons_zero,List.set_cons_succ]
    refine wpAnyH_tk 19 ?k18v rfl ?k18y ?k18r
    case k18y=>(intro w hSw;(try dsimp only at hSw);go_simp;try with_reducible rfl)
    try simp only[Act.put,List.getElem_toArray,List.getElem_cons_zero,List.getElem_cons_succ,List.setIfInBounds_toArray,List.set_cons_zero,List.set_cons_succ]
    refine wpAnyH_done (by kernel_rfl) ?_ _
    go_wp2_with fail
    go_meet
    exact⟨rfl,rfl,rfl,hB4⟩
   case rest=>
    obtain⟨rfl,rfl,rfl,hbx⟩:=hcut
    have HBX:Hid (Below u1.heap.size u1 wc):=hbx
    have c8:=R8.out wc hbx
    have c9:=R9.out wc hbx
    obtain⟨s',hs'⟩:∃x,s++⟨#[105,102,32]⟩++cd++⟨#[10]⟩++xs=x:=⟨_,rfl⟩
    rw[hs']
    have HS':Hid (s++⟨#[105,102,32]⟩++cd++⟨#[10]⟩++xs=s'):=hs'
    have s'z:s'.size<=700000:=by
     rw[<-hs']
     simp only[ByteArray.size_append]
     show s.size+3+cd.size+1+xs.size<=700000
     omega
    have HL':Hid (s'=bs (done++hdT (L p)++xl)):=(by
     rw[<-hs',HHD.out,<-bs_app,<-bs_app,<-bs_app,<-bs_app,HS.out,HCD.out,HXS.out,bs_list]
     simp only[ByteArray.append_assoc]
     rfl:s'=bs (done++hdT (L p)++xl))
    clear hbx hs' HS' R8 R9 HHD
    have z5:¬9223372036854775807<s'.size+5:=by omega
    have z6:¬9223372036854775807<s'.size+5+ys.size:=by omega
    have z7:¬9223372036854775807<s'.size+5+ys.size+4:=by omega
    have z8:¬9223372036854775807<s'.size+4:=by omega
    have BW:Hid (Below w.heap.size w wc):=B3.out.trans (HBX.out.mono B3.out.size)
    by_cases he0:0<e'
    ·have d1:(0:Int)<(e':Int):=by omega
     have d2:¬cap'=j2:=by have:=HJ.out;omega
     have g3:j3<=cap':=by have:=HJ.out;omega
     have g4:(j2:Int)<=max (j3:Int) 0:=by omega
     have HSTR:Hid (s'++⟨#[101,108,115,101,10]⟩++ys++⟨#[101,110,100,10]⟩=bs (done++(hdT (L p)++xl++(if 0<(L p).els then elseT++yl else[])++endT))):=(by
      rw[if_pos (by rw[HB'.out.1];exact d1),HL'.out,<-HYS.out]
      show bs (done++hdT (L p)++xl)++bs elseT++bs yl++bs endT=_
      simp only[bs_app,List.append_assoc]:s'++⟨#[101,108,115,101,10]⟩++ys++⟨#[101,110,100,10]⟩=bs (done++(hdT (L p)++xl++(if 0<(L p).els then elseT++yl else[])++endT)))
     go_wp2_with fail
     obtain⟨q1,q2,q3⟩:=HJ.out
     refine(HI.out (p+1+a) (p+1+a+e') (depth+1) (by omega) (by omega) (by omega) (by omega) HKB.out (i*11+j2*11) (j3-j2) (cap'-j2) wc (by omega) (fun h=>by omega) (by omega) (AU.out.below HBX.out (by have:=B3.out.size;omega))).mono ?_
     rintro e v5⟨rfl,hb5⟩
     rw[HYL.out,HYS.out]
     clear q1 q2 q3
     have B5:Hid (Below w.heap.size w v5):=BW.out.trans (hb5.mono BW.out.size)
     have e8:=(hb5.cell (p:=⟨sb,8,none⟩) (Nat.lt_of_lt_of_le sl HBX.out.size)).trans c8
     have e9:=(hb5.cell (p:=⟨sb,9,none⟩) (Nat.lt_of_lt_of_le sl HBX.out.size)).trans c9
     clear hb5 c8 c9
     go_wp2_with fail
     go_roundw
     case rel=>exact⟨j+1+a+e',_,by omega,by rw[HJ.out.2.2],by rw[<-HSTR.out],B5.out,HF1.out,by rw[show i+(j+1+a+e')=p+1+a+e' by omega];exact HKC.out⟩
     case measure=>have:=HJ.out;simp[intOf];omega
    ·have d1:¬(0:Int)<(e':Int):=by omega
     have HSTR:Hid (s'++⟨#[101,110,100,10]⟩=bs (done++(hdT (L p)++xl++(if 0<(L p).els then elseT++yl else[])++endT))):=(by
      rw[if_neg (by rw[HB'.out.1];exact d1),HL'.out]
      show bs (done++hdT (L p)++xl)++bs endT=_
      simp only[bs_app,List.append_assoc,List.append_nil]:s'++⟨#[101,110,100,10]⟩=bs (done++(hdT (L p)++xl++(if 0<(L p).els then elseT++yl else[])++endT)))
     go_wp2_with fail
     go_roundw
     case rel=>exact⟨j+1+a+e',_,by omega,by rw[HJ.out.2.2],by rw[<-HSTR.out],BW.out,HF1.out,by rw[show i+(j+1+a+e')=p+1+a+e' by omega];exact HKC.out⟩
     case measure=>have:=HJ.out;simp[intOf];omega
  ·have e1:((L p).k==1)=false:=by simp[hk]
   have e2:((L p).k==4)=false:=by simp[hk]
   have e3:((L p).k==3)=true:=by simp[hk]
   have hcd:=st_cnd HSOK.out (.inr hk)
   obtain⟨cd,hcd'⟩:∃x,bs (cndL (L p).cond)=x:=⟨_,rfl⟩
   have HCD:Hid (bs (cndL (L p).cond)=cd):=hcd'
   have cdz:cd.size<=2:=by rw[<-hcd',bs_size];exact cnd_len _
   obtain⟨xl,hxl⟩:∃x,prB L (p+1) (p+1+a)=x:=⟨_,rfl⟩
   have HXL:Hid (prB L (p+1) (p+1+a)=xl):=hxl
   obtain⟨xs,hxs⟩:∃x,bs xl=x:=⟨_,rfl⟩
   have HXS:Hid (bs xl=xs):=hxs
   obtain⟨yl,hyl⟩:∃x,prB L (p+1+a) (p+1+a+e')=x:=⟨_,rfl⟩
   have HYL:Hid (prB L (p+1+a) (p+1+a+e')=yl):=hyl
   obtain⟨ys,hys⟩:∃x,bs yl=x:=⟨_,rfl⟩
   have HYS:Hid (bs yl=ys):=hys
   have HX:Hid ((hdT (L p)++xl++(if 0<(L p).els then elseT++yl else[])++endT)++prB L (p+1+a+e') te=prB L p te):=(by
    rw[prB_c hlt HNT.out (.inr hk),HA'.out.2,HB'.out.2,hxl,hyl]:(hdT (L p)++xl++(if 0<(L p).els then elseT++yl else[])++endT)++prB L (p+1+a+e') te=prB L p te)
   have F1:=FIN.out _ HX.out
   have HF1:Hid _:=F1.1
   have hxz:xs.size<=300000:=by
    have h2:=F1.2
    rw[bs_size]at h2
    simp only[List.length_append]at h2
    rw[<-hxs,bs_size];omega
   have hyz:ys.size<=300000:=by
    have h2:=prB_len HPR.out _ (p+1+a) (p+1+a+e') (depth+1) (Nat.le_refl _) (by omega) HKB.out
    rw[hyl]at h2
    rw[<-hys,bs_size];omega
   have HHD:Hid (hdT (L p)=(⟨#[119,104,105,108,101,32]⟩:ByteArray).data.toList++cndL (L p).cond++[10]):=(by unfold hdT;rw[if_pos hk]:hdT (L p)=(⟨#[119,104,105,108,101,32]⟩:ByteArray).data.toList++cndL (L p).cond++[10])
   have z1:¬9223372036854775807<s.size+6:=by omega
   have z2:¬9223372036854775807<s.size+6+cd.size:=by omega
   have z3:¬9223372036854775807<s.size+6+cd.size+1:=by omega
   have z4:¬9223372036854775807<s.size+6+cd.size+1+xs.size:=by omega
   clear F1 hcd' hxl hxs hyl hys hk
   obtain⟨j1,hj1⟩:∃x,x=j+1:=⟨_,rfl⟩
   obtain⟨j2,hj2⟩:∃x,x=j+1+a:=⟨_,rfl⟩
   obtain⟨j3,hj3⟩:∃x,x=j+1+a+e':=⟨_,rfl⟩
   have wa:IntKind.i64.wrap ((j:Int)+1)=(j1:Int):=by rw[IntKind.wrap_i64]<;>omega
   have wb:IntKind.i64.wrap ((j1:Int)+(a:Int))=(j2:Int):=by rw[IntKind.wrap_i64]<;>omega
   have wc:IntKind.i64.wrap ((j2:Int)+(e':Int))=(j3:Int):=by rw[IntKind.wrap_i64]<;>omega
   have g1:j2<=cap':=by omega
   have g2:(j1:Int)<=max (j2:Int) 0:=by omega
   obtain⟨o1,ho1,ho1'⟩:∃x,(if cap'=j1 then some (⟨b,i*11,none⟩:Addr)else some (⟨b,i*11+j1*11,none⟩:Addr))=some (⟨b,x,none⟩:Addr)/\(0<a->x=(p+1)*11):=by
    by_cases h:cap'=j1
    ·exact⟨_,if_pos h,fun h'=>by omega⟩
    ·exact⟨_,if_neg h,fun h'=>by omega⟩
   have HO1:Hid (0<a->o1=(p+1)*11):=ho1'
   have HJ:Hid (j1=j+1/\j2=j+1+a/\j3=j+1+a+e'):=⟨hj1,hj2,hj3⟩
   have j12:j1<=j2:=by omega
   have j23:j2<=j3:=by omega
   clear ho1' hj1 hj2 hj3
   go_upto_region 9 with fail
   have r7:∀w',Below u1.heap.size u1 w'->w'.cell? ⟨sb,7,none⟩=some (.int .i64 (L p).cond):=fun w' h=>(h.cell (p:=⟨sb,7,none⟩) sl).trans c7
   have r8:∀w',Below u1.heap.size u1 w'->w'.cell? ⟨sb,8,none⟩=some (.int .i64 (a:Int)):=fun w' h=>(h.cell (p:=⟨sb,8,none⟩) sl).trans c8
   have R8:Hid (∀w',Below u1.heap.size u1 w'->w'.cell? ⟨sb,8,none⟩=some (.int .i64 (a:Int))):=r8
   have R9:Hid (∀w',Below u1.heap.size u1 w'->w'.cell? ⟨sb,9,none⟩=some (.int .i64 (e':Int))):=fun w' h=>(h.cell (p:=⟨sb,9,none⟩) sl).trans c9
   clear c0 c1 c2 c3 c4 c5 c6 c7 c8 c9 c10
   go_cut [3,4,5](fun s3 s4 s5 wx=>s3=.string (s++⟨#[119,104,105,108,101,32]⟩++cd++⟨#[10]⟩++xs)/\s4=.int .i64 (j:Int)/\s5=.pointer (some ⟨sb,0,none⟩)/\Below u1.heap.size u1 wx)
   case first=>
    refine wp_region_held_drew (S:=fun w'=>Below u1.heap.size u1 w') (by kernel_rfl) (Below.refl _ _).drew (fun _=>?_)
    refine wpAnyH_tk 0 ?k19v rfl ?k19y ?k19r
    case k19y=>(intro w hSw;(try dsimp only at hSw);go_simp;try with_reducible rfl)
    try simp only[Act.put,List.getElem_toArray,List.getElem_cons_zero,List.setIfInBounds_toArray,List.set_cons_zero,List.set_cons_succ]
    refine wpAnyH_tk 1 ?k20v rfl ?k20y ?k20r
    case k20y=>(intro w hSw;(try dsimp only at hSw);go_simp;try with_reducible rfl)
    try simp only[Act.put,List.getElem_toArray,List.getElem_cons_zero,List.getElem_cons_succ,List.setIfInBounds_toArray,List.set_cons_zero,List.set_cons_succ]
    refine wpAnyH_tk 2 ?k21v rfl ?k21y ?k21r
    case k21y=>(intro w hSw;(try dsimp only at hSw);go_simp;try with_reducible rfl)
    try simp only[Act.put,List.getElem_toArray,List.getElem_cons_zero,List.getElem_cons_succ,List.setIfInBounds_toArray,List.set_cons_zero,List.set_cons_succ]
    refine wpAnyH_tk 3 ?k22v rfl ?k22y ?k22r
    case k22y=>(intro w hSw;(try dsimp only at hSw);go_simp;try with_reducible rfl)
    try simp only[Act.put,List.getElem_toArray,List.getElem_cons_zero,List.getElem_cons_succ,List.setIfInBounds_toArray,List.set_cons_zero,List.set_cons_succ]
    refine wpAnyH_tk 4 ?k23v rfl ?k23y ?k23r
    case k23y=>(intro w hSw;(try dsimp only at hSw);go_simp;try with_reducible rfl)
    try simp only[Act.put,List.getElem_toArray,List.getElem_cons_zero,List.getElem_cons_succ,List.setIfInBounds_toArray,List.set_cons_zero,List.set_cons_succ]
    refine wpAnyH_tk 8 ?k24v rfl ?k24y ?k24r
    case k24y=>(intro w hSw;(try dsimp only at hSw);go_simp;try with_reducible rfl)
    try simp only[Act.put,List.getElem_toArray,List.getElem_cons_zero,List.getElem_cons_succ,List.setIfInBounds_toArray,List.set_cons_zero,List.set_cons_succ]
    refine wpAnyH_tk 9 ?k25v rfl ?k25y ?k25r
    case k25y=>(intro w hSw;(try dsimp only at hSw);go_simp;try with_reducible rfl)
    try simp only[Act.put,List.getElem_toArray,List.getElem_cons_zero,List.getElem_cons_succ,List.setIfInBounds_toArray,List.set_cons_zero,List.set_cons_succ]
    refine wpAnyH_tk 10 ?k26v rfl ?k26y ?k26r
    case k26y=>(intro w hSw;(try dsimp only at hSw);go_simp;try with_reducible rfl)
    try simp only[Act.put,List.getElem_toArray,List.getElem_cons_zero,List.getElem_cons_succ,List.setIfInBounds_toArray,List.set_cons_zero,List.set_cons_succ]
    refine wpAnyH_tk 11 ?k27v rfl ?k27y ?k27r
    case k27y=>(intro w hSw;(try dsimp only at hSw);go_simp;try with_reducible rfl)
    try simp only[Act.put,List.getElem_toArray,List.getElem_cons_zero,List.getElem_cons_succ,List.setIfInBounds_toArray,List.set_cons_zero,List.set_cons_succ]
    refine wpAnyH_tk 12 ?k28v rfl ?k28y ?k28r
    case k28y=>(intro w hSw;(try dsimp only at hSw);go_simp;try with_reducible rfl)
    try simp only[Act.put,List.getElem_toArray,List.getElem_cons_zero,List.getElem_cons_succ,List.setIfInBounds_toArray,List.set_cons_zero,List.set_cons_succ]
    refine wpAnyH_tk 13 ?k29v rfl ?k29y ?k29r
    case k29y=>(intro w hSw;(try dsimp only at hSw);go_simp;try with_reducible rfl)
    try simp only[Act.put,List.getElem_toArray,List.getElem_cons_zero,List.getElem_cons_succ,List.setIfInBounds_toArray,List.set_cons_zero,List.set_cons_succ]
    refine wpAnyH_tk 14 ?k30v rfl ?k30y ?k30r
    case k30y=>(intro w hSw;(try dsimp only at hSw);go_simp;try with_reducible rfl)
    try simp only[Act.put,List.getElem_toArray,List.getElem_cons_zero,List.getElem_cons_succ,List.setIfInBounds_toArray,List.set_cons_zero,List.set_cons_succ]
    refine wpAnyH_tk 15 ?k31v rfl ?k31y ?k31r
    case k31y=>(intro w hSw;(try dsimp only at hSw);go_simp;try with_reducible rfl)
    try simp only[Act.put,List.getElem_toArray,List.getElem_cons_zero,List.getElem_cons_succ,List.setIfInBounds_toArray,List.set_cons_zero,List.set_cons_succ]
    refine wpAnyH_tk 16 ?k32v rfl ?k32y ?k32r
    case k32y=>(intro w hSw;(try dsimp only at hSw);go_simp;try with_reducible rfl)
    try simp only[Act.put,List.getElem_toArray,List.getElem_cons_zero,List.getElem_cons_succ,List.setIfInBounds_toArray,List.set_cons_zero,List.set_cons_succ]
    obtain⟨v2,hv2,hbd⟩:∃v,u1.drew=v/\Below u1.heap.size u1 v:=⟨_,rfl,(Below.refl _ _).drew⟩
    rw[hv2]
    clear hv2
    refine wpAnyH_ready (rs:=[5]) (by kernel_rfl) (by simp) ?_
    refine AllReadyH.cons rfl (fun KK hK=>?_) AllReadyH.nil
    go_simp
    refine(condText_any (L p).cond _ hcd.1 hcd.2).mono ?_
    rintro e v3⟨rfl,hb3⟩
    rw[HCD.out]
    have hB3:Below u1.heap.size u1 v3:=hbd.trans (hb3.mono hbd.size)
    refine hK.out _ _ hB3 (fun _=>?_)
    clear hK KK hb3
    try simp only[Act.put,List.getElem_toArray,List.getElem_cons_zero,List.getElem_cons_succ,List.setIfInBounds_toArray,List.set_cons_zero,List.set_cons_succ]
    refine wpAnyH_tk 6 ?k33v rfl ?k33y ?k33r
    case k33y=>(intro w hSw;(try dsimp only at hSw);go_simp;try with_reducible rfl)
    try simp only[Act.put,List.getElem_toArray,List.getElem_cons_zero,List.getElem_cons_succ,List.setIfInBounds_toArray,List.set_cons_zero,List.set_cons_succ]
    refine wpAnyH_tk 7 ?k34v rfl ?k34y ?k34r
    case k34y=>(intro w hSw;(try dsimp only at hSw);go_simp;try with_reducible rfl)
    try simp only[Act.put,List.getElem_toArray,List.getElem_cons_zero,List.getElem_cons_succ,List.setIfInBounds_toArray,List.set_cons_zero,List.set_cons_succ]
    refine wpAnyH_ready (rs:=[17]) (by kernel_rfl) (by simp) ?_
    refine AllReadyH.cons rfl (fun KK hK=>?_) AllReadyH.nil
    go_simp
    obtain⟨q1,q2,q3⟩:=HJ.out
    refine(HI.out (p+1) (p+1+a) (depth+1) (by omega) (by omega) (by omega) (by omega) HKA.out o1 (j2-j1) (cap'-j1) v3 (by omega) (fun h=>HO1.out (by omega)) (by omega) (AU.out.below hB3 (by have:=B3.out.size;omega))).mono ?_
    rintro e v4⟨rfl,hb4⟩
    rw[HXL.out,HXS.out]
    have hB4:Below u1.heap.size u1 v4:=hB3.trans (hb4.mono hB3.size)
    refine hK.out _ _ hB4 (fun _=>?_)
    clear hK KK hb4 q1 q2 q3
    try simp only[Act.put,List.getElem_toArray,List.getElem_cons_zero,List.getElem_cons_succ,List.setIfInBounds_toArray,List.set_cons_zero,List.set_cons_succ]
    refine wpAnyH_tk 18 ?k35v rfl ?k35y ?k35r
    case k35y=>(intro w hSw;(try dsimp only at hSw);go_simp;try with_reducible rfl)
    try simp only[Act.put,List.getElem_toArray,List.getElem_cons_zero,List.getElem_cons_succ,List.setIfInBounds_toArray,List.set_cons_zero,List.set_cons_succ]
    refine wpAnyH_tk 19 ?k36v rfl ?k36y ?k36r
    case k36y=>(intro w hSw;(try dsimp only at hSw);go_simp;try with_reducible rfl)
    try simp only[Act.put,List.getElem_toArray,List.getElem_cons_zero,List.getElem_cons_succ,List.setIfInBounds_toArray,List.set_cons_zero,List.set_cons_succ]
    refine wpAnyH_done (by kernel_rfl) ?_ _
    go_wp2_with fail
    go_meet
    exact⟨rfl,rfl,rfl,hB4⟩
   case rest=>
    obtain⟨rfl,rfl,rfl,hbx⟩:=hcut
    have HBX:Hid (Below u1.heap.size u1 wc):=hbx
    have c8:=R8.out wc hbx
    have c9:=R9.out wc hbx
    obtain⟨s',hs'⟩:∃x,s++⟨#[119,104,105,108,101,32]⟩++cd++⟨#[10]⟩++xs=x:=⟨_,rfl⟩
    rw[hs']
    have HS':Hid (s++⟨#[119,104,105,108,101,32]⟩++cd++⟨#[10]⟩++xs=s'):=hs'
    have s'z:s'.size<=700000:=by
     rw[<-hs']
     simp only[ByteArray.size_append]
     show s.size+6+cd.size+1+xs.size<=700000
     omega
    have HL':Hid (s'=bs (done++hdT (L p)++xl)):=(by
     rw[<-hs',HHD.out,<-bs_app,<-bs_app,<-bs_app,<-bs_app,HS.out,HCD.out,HXS.out,bs_list]
     simp only[ByteArray.append_assoc]
     rfl:s'=bs (done++hdT (L p)++xl))
    clear hbx hs' HS' R8 R9 HHD
    have z5:¬9223372036854775807<s'.size+5:=by omega
    have z6:¬9223372036854775807<s'.size+5+ys.size:=by omega
    have z7:¬9223372036854775807<s'.size+5+ys.size+4:=by omega
    have z8:¬9223372036854775807<s'.size+4:=by omega
    have BW:Hid (Below w.heap.size w wc):=B3.out.trans (HBX.out.mono B3.out.size)
    by_cases he0:0<e'
    ·have d1:(0:Int)<(e':Int):=by omega
     have d2:¬cap'=j2:=by have:=HJ.out;omega
     have g3:j3<=cap':=by have:=HJ.out;omega
     have g4:(j2:Int)<=max (j3:Int) 0:=by omega
     have HSTR:Hid (s'++⟨#[101,108,115,101,10]⟩++ys++⟨#[101,110,100,10]⟩=bs (done++(hdT (L p)++xl++(if 0<(L p).els then elseT++yl else[])++endT))):=(by
      rw[if_pos (by rw[HB'.out.1];exact d1),HL'.out,<-HYS.out]
      show bs (done++hdT (L p)++xl)++bs elseT++bs yl++bs endT=_
      simp only[bs_app,List.append_assoc]:s'++⟨#[101,108,115,101,10]⟩++ys++⟨#[101,110,100,10]⟩=bs (done++(hdT (L p)++xl++(if 0<(L p).els then elseT++yl else[])++endT)))
     go_wp2_with fail
     obtain⟨q1,q2,q3⟩:=HJ.out
     refine(HI.out (p+1+a) (p+1+a+e') (depth+1) (by omega) (by omega) (by omega) (by omega) HKB.out (i*11+j2*11) (j3-j2) (cap'-j2) wc (by omega) (fun h=>by omega) (by omega) (AU.out.below HBX.out (by have:=B3.out.size;omega))).mono ?_
     rintro e v5⟨rfl,hb5⟩
     rw[HYL.out,HYS.out]
     clear q1 q2 q3
     have B5:Hid (Below w.heap.size w v5):=BW.out.trans (hb5.mono BW.out.size)
     have e8:=(hb5.cell (p:=⟨sb,8,none⟩) (Nat.lt_of_lt_of_le sl HBX.out.size)).trans c8
     have e9:=(hb5.cell (p:=⟨sb,9,none⟩) (Nat.lt_of_lt_of_le sl HBX.out.size)).trans c9
     clear hb5 c8 c9
     go_wp2_with fail
     go_roundw
     case rel=>exact⟨j+1+a+e',_,by omega,by rw[HJ.out.2.2],by rw[<-HSTR.out],B5.out,HF1.out,by rw[show i+(j+1+a+e')=p+1+a+e' by omega];exact HKC.out⟩
     case measure=>have:=HJ.out;simp[intOf];omega
    ·have d1:¬(0:Int)<(e':Int):=by omega
     have HSTR:Hid (s'++⟨#[101,110,100,10]⟩=bs (done++(hdT (L p)++xl++(if 0<(L p).els then elseT++yl else[])++endT))):=(by
      rw[if_neg (by rw[HB'.out.1];exact d1),HL'.out]
      show bs (done++hdT (L p)++xl)++bs endT=_
      simp only[bs_app,List.append_assoc,List.append_nil]:s'++⟨#[101,110,100,10]⟩=bs (done++(hdT (L p)++xl++(if 0<(L p).els then elseT++yl else[])++endT)))
     go_wp2_with fail
     go_roundw
     case rel=>exact⟨j+1+a+e',_,by omega,by rw[HJ.out.2.2],by rw[<-HSTR.out],BW.out,HF1.out,by rw[show i+(j+1+a+e')=p+1+a+e' by omega];exact HKC.out⟩
     case measure=>have:=HJ.out;simp[intOf];omega
  ·have e1:((L p).k==1)=false:=by simp[hk]
   have e2:((L p).k==4)=true:=by simp[hk]
   obtain⟨y2,y3⟩:=st_flat HSOK.out (.inr hk)
   have ea:a=0:=by have:=HA'.out.1;omega
   have ee:e'=0:=by have:=HB'.out.1;omega
   have hpc:=st_call HSOK.out hk
   have hpn:(L p).proc.natAbs<100:=by have:=HPR.out;omega
   have hll:=digS_len (L p).proc (by omega)
   obtain⟨ls,hls⟩:∃x,digS (L p).proc=x:=⟨_,rfl⟩
   have HLS:Hid (digS (L p).proc=ls):=hls
   rw[hls]at hll
   have HX:Hid (callT (L p)++prB L (p+1+a+e') te=prB L p te):=(by
    rw[prB_4 hlt HNT.out hk,HA'.out.2,HB'.out.2]:callT (L p)++prB L (p+1+a+e') te=prB L p te)
   have F1:=FIN.out _ HX.out
   have HF1:Hid _:=F1.1
   have HSTR:Hid (s++⟨#[99,97,108,108,32]⟩++ls++⟨#[10]⟩=bs (done++callT (L p))):=(by
    unfold callT
    rw[<-bs_app,HS.out,<-bs_app,<-bs_app,<-HLS.out,ByteArray.append_assoc,ByteArray.append_assoc,ByteArray.append_assoc]
    rfl:s++⟨#[99,97,108,108,32]⟩++ls++⟨#[10]⟩=bs (done++callT (L p)))
   have z1:¬9223372036854775807<s.size+5:=by omega
   have z2:¬9223372036854775807<s.size+5+ls.size:=by omega
   have z3:¬9223372036854775807<s.size+5+ls.size+1:=by omega
   clear hk y2 y3 hls F1 hpc
   go_wp2_with fail
   refine(digits_big (L p).proc (by omega) _).mono ?_
   rintro e u2⟨rfl,hb2⟩
   rw[HLS.out]
   have B4:Hid (Below w.heap.size w u2):=B3.out.trans (hb2.mono B3.out.size)
   have S2:Hid _:=S1.out.below hb2
   clear hb2 c0 c1 c2 c3 c4 c5 c6 c7 c8 c9 c10 B3 hpn
   obtain⟨c0,c1,c2,c3,c4,c5,c6,c7,c8,c9,c10⟩:=st_cl S2.out
   rw[HA'.out.1]at c8
   rw[HB'.out.1]at c9
   go_wp2_with fail
   go_roundw
   case rel=>exact⟨j+1+a+e',_,by omega,by go_num,by rw[<-HSTR.out],B4.out,HF1.out,by rw[show i+(j+1+a+e')=p+1+a+e' by omega];exact HKC.out⟩
   case measure=>simp[intOf];omega
end Go.Proofs.YtiphbmhoifggiaaGreatDoor
