import Derived.Test.YtkckomianknjdaaGreatOfCoreF
import Derived.Test.YtkckomianknjdaaGreatOfDrawM0
import Derived.Test.YtkckomianknjdaaGreatOfSpecDo
set_option maxHeartbeats 8000000
set_option maxRecDepth 20000
namespace Go.Proofs.YtkckomianknjdaaGreat
open Go.RowKit
theorem WL(w:World)(p:Nat)(d:Option Addr)(n c:Nat)(j:CG w p d n c):DX w p d n c (w.heap.size+1) w.heap.size G8 ((w.alloc (.cells G8.a 28)).alloc (.cells G8.a 28)):=by
 have b:Bw w ((w.alloc (.cells G8.a 28)).alloc (.cells G8.a 28)):=(Ah).alloc AY _;have e:(w.alloc (.cells G8.a 28)).heap.size=w.heap.size+1:=AY;refine⟨⟨.of_below b,j.below b,⟨rfl,.inl ⟨rfl,rfl⟩⟩,⟨rfl,.inl ⟨rfl,rfl⟩⟩,⟨rfl,.inl ⟨rfl,rfl⟩⟩,fun _ h=>absurd h List.not_mem_nil,fun _ h=>absurd h List.not_mem_nil,fun _ h=>absurd h List.not_mem_nil,j.lt⟩,?_,?_,Nat.le_succ _,BP,AB⟩
 ·rw[<-e];exact Bh _ _
 ·exact(Below.heap_alloc _ _ _ (by rw[e];omega)).trans (Bh w _)
theorem WQ:∀(a:List HD)(k:Nat)(x:HD),a[k]?=some x->(a.flatMap Sw)[k*3]?=some (.int .u64 x.base)
 |[],k,x,h=>by simp at h
 |y::l,0,x,h=>by
  have e:y=x:=by simpa using h
  rw[e];rfl
 |y::l,k+1,x,h=>by
  rw[List.flatMap_cons,List.getElem?_append_right (by show 3<=_;omega)];have:=WQ l k x (by simpa using h);rw[show(k+1)*3-(Sw y).length=k*3 by show(k+1)*3-3=k*3;omega];exact this
theorem MW(p:Nat)(C:Option Addr)(n l:Nat)(w:World)(hc:CG w p C n l):
 Calls Tryz.prog 44 #[Vq p] w fun e J=>∃m:Md,e=.returned (.agg m.a)/\m.rs.length=8/\m.hs.length<=3/\m.os.length<=1/\DW w p C n l m J:=by
 have HC:=hxy hc;obtain⟨iH,gH,aS,aT,aU⟩:=info_parts KQ;have an:Hid (Tryz.prog.info? 76=some iH/\iH.zero=some (.agg #[.int .u64 0,.bool false,.slice none 0 0])/\iH.size=3/\iH.bytes=40):=⟨gH,aS,aT,aU⟩
 obtain⟨iR,gR,aY,aZ,a0⟩:=info_parts MG;have ar:Hid (Tryz.prog.info? 74=some iR/\iR.zero=some (.int .u64 0)/\iR.size=1/\iR.bytes=8):=⟨gR,aY,aZ,a0⟩
 obtain⟨iO,gO,aV,aW,aX⟩:=info_parts Lv;have ap:Hid (Tryz.prog.info? 109=some iO/\iO.zero=some (.agg #[Vi 0,.int .u64 0])/\iO.size=2/\iO.bytes=16):=⟨gO,aV,aW,aX⟩
 have lp:=hc.lt;clear gO aV aW aX hc gH aS aT aU gR aY aZ a0;go_enter Tryz.func44,Tryz.ntmps44;go_upto_region 2 with fail;obtain⟨u0,aI,x0⟩:∃y,(w.alloc (.cells G8.a 28)).alloc (.cells G8.a 28)=y/\DX w p C n l (w.heap.size+1) w.heap.size G8 y:=⟨_,rfl,WL w p C n l HC⟩
 unfold Md.a G8 at aI;rw[aI];obtain⟨r,hr⟩:=BG w.heap.size;obtain⟨q,hq⟩:=BG (w.heap.size+1);rw[hq,hr]at x0;rw[hq,hr];have X0:=hxy x0;have bA:Hid (w.heap.size=r/\w.heap.size+1=q):=⟨hr,hq⟩
 clear aI x0 hr hq HC;go_wp2_with fail;refine(AX p C n l 5 _ AB X0.W.K).mono ?_;rintro e u1⟨x,rfl,xl,xh,f,c⟩;have X1:=hxy (X0.fw f c);clear f c X0;go_wp2_with fail;refine(Bv p C n l 8 _ AB X1.W.K).mono ?_;rintro e u2⟨z,rfl,f,c⟩;have X2:=hxy (X1.fw f c);clear f c X1;go_upto_if 16 with fail;go_cut [2,3,4](fun s2 s3 s4 wx=>s2=Vq r/\s3=Vq q/\(∃Q,s4=.int .u64 Q/\FV Q)/\DX w p C n l q r G8 wx)
 case first=>
  cases z with
  |true=>
   go_wp2_with fail;go_meet;exact⟨rfl,rfl,⟨_,rfl,by unfold FV;omega⟩,X2⟩
  |false=>
   go_wp2_with fail;go_meet;exact⟨rfl,rfl,⟨_,rfl,by unfold FV;omega⟩,X2⟩
 case rest=>
 clear X2;obtain⟨rfl,rfl,⟨Q,rfl,ak⟩,fx⟩:=hcut;have X3:=hxy fx;have ai:=hxy ak;clear fx ak;generalize wc=u3 at X3⊢;go_wp2_with fail;refine(AX p C n l 4 _ AB X3.W.K).mono ?_;rintro e u4⟨nn,rfl,n0,n1,f,c⟩;have X4:=hxy (X3.fw f c);clear f c X3;go_wp2_with fail;go_loopw [4,6](fun bv iv wr=>∃(Q:Int)(m:Md),bv=.int .u64 Q/\FV Q/\iv=Vi (m.hs.length:Int)/\(m.hs.length:Int)<=nn/\(m.rs=[]/\m.os=[])/\DX w p C n l q r m wr)(fun _ iv _=>(nn-intOf iv).toNat)
 case atStart=>exact⟨Q,G8,rfl,ai,rfl,by simpa[G8]using n0,⟨rfl,rfl⟩,X4⟩
 case round=>
  clear X4 ai;obtain⟨Q,m,rfl,ak,rfl,aH,a9,hx⟩:=hrel;have ai:=hxy ak;have aj:=hxy a9;have X5:=hxy hx;obtain⟨k,hk⟩:∃k:Int,(m.hs.length:Int)=k:=⟨_,rfl⟩
  have HK:=hxy hk;have k0:0<=k:=AB;rw[hk]at aH⊢;clear ak a9 hx hk;by_cases bD:k<nn
  ·go_wp2_with fail
   refine(AX p C n l 3 _ AB X5.W.K).mono ?_;rintro e u6⟨y,rfl,y0,y1,f,c⟩;have X6:=hxy (X5.fw f c);clear f c X5;go_wp2_with fail;refine(AX p C n l 40 _ AB X6.W.K).mono ?_;rintro e u7⟨d,rfl,d0,d1,f,c⟩;have X7:=hxy (X6.fw f c);clear f c X6;go_wp2_with fail;refine(Ji p C n l (1+d) _ AB AB X7.W.K).mono ?_;rintro e u8⟨v,rfl,ds,bC,a5,aE,f,c⟩;have X8:=hxy (X7.fw f c);obtain⟨va,vc,rfl⟩:=BA aE;obtain⟨wb,bF⟩:=BG (decide (0<y));have aO:=hxy aE;have bh:=hxy a5;have bu:ds.length<=100:=AB;have z7:=X7.W.F.size;clear f c X7 aE a5;go_upto_region 10 with fail;obtain⟨u9,al,x9,h9,d9⟩:∃y,u8.alloc (.cells #[.int .u64 Q,.bool wb,.slice va ds.length vc] 76)=y/\DX w p C n l q r m y/\y.heap[u8.heap.size]?=some (.cells #[.int .u64 Q,.bool wb,.slice va ds.length vc] 76)/\y.ownsRow w.heap.size 5 1 (.slice va ds.length vc) ds.length (ds.map (.int .u8 ·)):=by
    have b:Bw u8 (u8.alloc (.cells #[.int .u64 Q,.bool wb,.slice va ds.length vc] 76)):=Ah;refine⟨_,rfl,X8.below b,Bh _ _,?_⟩;have k:=Aw aO b;refine⟨k.1,?_⟩;rcases k.2 with h'|⟨g,l,bm,h',h1,h2⟩
    ·exact .inl h'
    ·exact .inr ⟨g,l,bm,h',Nat.le_trans z7 h1,h2⟩
   rw[al];obtain⟨hb,a6⟩:=BG u8.heap.size;have bB:w.heap.size<=hb:=by have:=X8.W.F.size;omega
   rw[a6]at h9⊢;have X9:=hxy x9;have H9:=hxy h9;have D9:=hxy d9;have c0:=AJ h9 0;have c1:=AJ h9 1;have c2:=AJ h9 2;simp only[List.getElem?_toArray,List.getElem?_cons_zero,List.getElem?_cons_succ]at c0 c1 c2;have cz:=(Cj.1 h9).1;clear al x9 h9 d9 a6 aO X8;go_wp2_with fail;refine(Cx Q wb va ds.length vc _ AB).mono ?_;rintro e u10⟨rfl,af⟩;have N:=hxy (X9.below af);have aN:=hxy ((af.block hb cz).trans H9);have aK:=hxy (Aw D9 af);clear af X9 H9 D9 c0 c1 c2 cz;go_wp2_with fail;refine(AX p C n l 9 _ AB N.W.K).mono ?_;rintro e u11⟨g,rfl,g0,g1,f,c⟩;have B:=hxy (N.fw f c);have ah:Hid (u11.heap[hb]?=some (.cells #[.int .u64 Q,.bool wb,.slice va ds.length vc] 76)):=Gf aN f AB;have aM:=hxy (EA aK f lp);clear f c N aN aK;have c0:=AJ ah 0;have c1:=AJ ah 1;have c2:=AJ ah 2;simp only[List.getElem?_toArray,List.getElem?_cons_zero,List.getElem?_cons_succ]at c0 c1 c2;have cz:=(Cj.1 ah).1;obtain⟨⟨_,_,_,_,_,x5,_,_,_⟩,xf,xz⟩:=B.cells;obtain⟨ha,ad,L⟩:=BA B.W.H;rw[L]at x5;have aB:=hxy L;clear L;go_upto_region 11 with fail;obtain⟨b2,aD⟩:=BG (IntKind.u64.wrap (IntKind.u64.wrap (Q+(1+d))+g));have bg:Hid (FV b2):=(by rw[<-aD];exact JD _:FV b2)
   rw[aD];clear aD;have bq:m.hs.length<=8:=by have:=HK.out;omega
   have aC:∀o,w.heap.size<=(u11.alloc o).heap.size:=fun o=>(B.below (Al.alloc BP o)).W.F.size
   have ay:Hid (∀j u,[Value.int .u64 Q,.bool wb,.slice va ds.length vc][j]?=some u->(u11.alloc (.cells #[.int .u64 Q,.bool wb,.slice va ds.length vc] 76)).cell? ((⟨u11.heap.size,0,none⟩:Addr).add j)=some u):=Ch u11 _ _;have OA:Hid (∀o,(u11.alloc o).ownsRow w.heap.size 76 3 (.slice ha m.hs.length ad) m.hs.length (m.hs.flatMap Sw)):=fun o=>by
    have k:=(B.below (Al.alloc BP o)).W.H;rw[aB.out]at k;exact k
   go_wp2_with(first|(at_builtin;refine wpList_append_own_at _ rfl _ _ 25 rfl w.heap.size 76 iH _ 3 40 Tryz.underlying25 an.1 an.2.1 an.2.2.1 an.2.2.2 rfl Aa _ _ _ rfl (OA _) ⟨u11.heap.size,0,none⟩ 1 1 [Value.int .u64 Q,.bool wb,.slice va ds.length vc] rfl rfl ay ?c2 ?c3 ?c4 (aC _) ?_))
   case c2=>simp[Value.oneCell']
   case c3=>unfold maxLen;omega
   case c4=>omega
   intro v' u12 E A _ _;obtain⟨vb,M,rfl⟩:=BA E;obtain⟨ua,am,ba⟩:∃y,u11.alloc (.cells #[.int .u64 Q,.bool wb,.slice va ds.length vc] 76)=y/\Bw u11 y:=⟨_,rfl,Ah⟩
   rw[am]at A;rw[<-aB.out]at A;have XA:=B.below ba;have ab:DW w p C n l {m with vH:=.slice vb (m.hs.length+1) M,hs:=m.hs++[⟨Q,wb,.slice va ds.length vc,ds⟩]} u12:=XA.W.growH _ ⟨Q,wb,.slice va ds.length vc,ds⟩ ⟨ai,by show ds.length<=4100;omega,bh⟩ (Aw aM ba) A E;have D:=Br XA.X A (CF XA.X XA.W.H Aa);have ac:=Br XA.Z A (CF XA.Z XA.W.H Aa);have U:Hid (DX w p C n l q r {m with vH:=.slice vb (m.hs.length+1) M,hs:=m.hs++[⟨Q,wb,.slice va ds.length vc,ds⟩]} (u12.setCell (Va q 5) (.slice vb (m.hs.length+1) M))):=DX.store ab D ac B.wq B.wr B.ne 5 _ rfl;have y5:=AJ D 5;have yf:=CS D;have yz:=(Cj.1 D).1;clear E A ba am XA ab D ac c0 c1 c2 cz x5 xf xz B ah aM;go_wp2_with fail;go_roundw
   case rel=>exact⟨b2,{m with vH:=.slice vb (m.hs.length+1) M,hs:=m.hs++[⟨Q,wb,.slice va ds.length vc,ds⟩]},rfl,bg,by have:=HK.out;simp;omega,by have:=HK.out;simp;omega,aj,U⟩
   case measure=>simp[intOf];omega
  ·clear ai
   go_wp2_with fail;go_loopw [8](fun iv wr=>∃(m:Md),iv=Vi (m.rs.length:Int)/\(m.rs.length:Int)<=8/\m.os=[]/\m.hs.length<=3/\DX w p C n l q r m wr)(fun iv _=>(8-intOf iv).toNat)
   case atStart=>exact⟨m,by rw[aj.1];rfl,by rw[aj.1];simp,aj.2,by have:=HK.out;omega,X5⟩
   case round=>
    clear X5 aj HK;obtain⟨m,rfl,aH,bb,aG,hx⟩:=hrel;have X5:=hxy hx;have aA:=hxy bb;obtain⟨k,hk⟩:∃k:Int,(m.rs.length:Int)=k:=⟨_,rfl⟩
    have HK:=hxy hk;have k0:0<=k:=AB;rw[hk]at aH⊢;clear bb hx hk;by_cases bw:k<8
    ·go_wp2_with fail
     refine(Jg p C n l _ X5.W.K).mono ?_;rintro e u6⟨x,rfl,aJ,f,c⟩;have X6:=hxy (X5.fw f c);have aR:=hxy aJ;clear f c X5 aJ;obtain⟨⟨x0,_,_,_,_,x5,_,_,_⟩,xf,xz⟩:=X6.cells;obtain⟨ha,ad,L⟩:=BA X6.W.H;rw[L]at x5;have aB:=hxy L;clear L;go_upto_region 16 with fail;go_cut [2,3,8,9,63](fun s2 s3 s8 s9 br wx=>s2=Vq r/\s3=Vq q/\s8=Vi k/\s9=.int .u64 x/\(∃zz:Bool,br=.bool zz/\(zz=true->k<(m.hs.length:Int)))/\DX w p C n l q r m wx)
     case first=>
      by_cases hh:k<(m.hs.length:Int)
      ·have e1:decide (k<(m.hs.length:Int))=true:=by simp[hh]
       go_wp2_with fail;refine(AX p C n l 4 _ AB X6.W.K).mono ?_;rintro e u7⟨y,rfl,y0,y1,f,c⟩;have X7:=hxy (X6.fw f c);clear f c x0 x5 xf xz;obtain⟨zz,aw⟩:=BG (decide (0<y));go_wp2_with fail;go_meet;exact⟨rfl,rfl,rfl,rfl,⟨_,rfl,fun _=>hh⟩,X7⟩
      ·have e1:decide (k<(m.hs.length:Int))=false:=by simp[hh]
       go_wp2_with fail;go_meet;exact⟨rfl,rfl,rfl,rfl,⟨_,rfl,fun h=>by cases h⟩,X6⟩
     case rest=>
     clear X6 x0 x5 xf xz;obtain⟨rfl,rfl,rfl,rfl,⟨zz,rfl,aw⟩,fx⟩:=hcut;have X6:=hxy fx;clear fx;generalize wc=u6 at X6⊢;go_upto_if 63 with fail;go_cut [2,3,8,9](fun s2 s3 s8 s9 wx=>s2=Vq r/\s3=Vq q/\s8=Vi k/\(∃Q,s9=.int .u64 Q/\FV Q)/\DX w p C n l q r m wx)
     case first=>
      cases zz with
      |false=>
       go_wp2_with fail;go_meet;exact⟨rfl,rfl,rfl,⟨_,rfl,aR⟩,X6⟩
      |true=>
       have hh:=aw rfl;clear aw;obtain⟨kn,bo⟩:=Int.eq_ofNat_of_zero_le k0;subst bo;have bn:kn<m.hs.length:=AB;obtain⟨gH,gc,L⟩:∃g c,m.vH=Vs g m.hs.length c:=by
        obtain⟨g,c,h⟩:=FP X6.W.H AB;exact⟨g,c,h⟩
       obtain⟨x9,bp⟩:∃y:HD,m.hs[kn]?=some y:=⟨_,List.getElem?_eq_getElem bn⟩
       have j5:∀J,DX w p C n l q r m J->J.cell? (Va q 5)=some (Vs gH m.hs.length gc):=fun J h=>by rw[<-L];exact h.cells.1.2.2.2.2.2.1
       have j0:∀J,DX w p C n l q r m J->J.cell? (Va gH (kn*3))=some (.int .u64 x9.base):=fun J h=>by
        have hH:=h.W.H;rw[L]at hH;rw[hH.cellAt (kn*3) AB];exact WQ m.hs kn x9 bp
       have j1:∀J,DX w p C n l q r m J->q<J.heap.size:=fun J h=>h.cells.2.2
       have j2:∀J,DX w p C n l q r m J->gH<J.heap.size:=fun J h=>by
        have hH:=h.W.H;rw[L]at hH;exact(hH.lt gH rfl).2
       go_upto_region 17 with fail;refine wp_region_held_drew (S:=fun J=>DX w p C n l q r m J) Ab (X6.below Al.drew) (fun _=>?_);refine lM [0,1,2,3,4,5,6] ?_;refine AO 7 rfl (fun KK hK=>?_);go_simp;refine(AX p C n l 12 _ AB (X6.below Al.drew).W.K).mono ?_;rintro e u8⟨y,rfl,y0,y1,f,c⟩;have X8:DX w p C n l q r m u8:=(X6.below Al.drew).fw f c;go_wp2_with fail;refine hK.out _ _ X8 (fun _=>?_);clear hK KK f c;refine lM [8,9,10] ?_;refine wpAnyH_done Ab ?_ _;have bl:=hxy X8;clear X8 j5 j0 j1 j2 X6;go_wp2_with fail;go_meet;exact⟨rfl,rfl,rfl,⟨_,rfl,JD _⟩,bl⟩
     case rest=>
     clear X6 aR aw;obtain⟨rfl,rfl,rfl,⟨x2,rfl,bf⟩,fx⟩:=hcut;have B:=hxy fx;have bj:=hxy bf;clear fx bf;generalize wc=u11 at B⊢;obtain⟨⟨x0,_,_,_,_,_,_,_,_⟩,xf,xz⟩:=B.cells;obtain⟨ra,rc,ae⟩:=BA B.W.R;rw[ae]at x0;have bi:=hxy ae;have bq:m.rs.length<=8:=by have:=HK.out;omega
     have aC:∀o,w.heap.size<=(u11.alloc o).heap.size:=fun o=>(B.below (Al.alloc BP o)).W.F.size
     have ay:Hid (∀j u,[Value.int .u64 x2][j]?=some u->(u11.alloc (.cells #[.int .u64 x2] 74)).cell? ((⟨u11.heap.size,0,none⟩:Addr).add j)=some u):=Ch u11 _ _;have OA:Hid (∀o,(u11.alloc o).ownsRow w.heap.size 74 1 (.slice ra m.rs.length rc) m.rs.length (m.rs.map (.int .u64 ·))):=fun o=>by
      have k:=(B.below (Al.alloc BP o)).W.R;rw[ae]at k;exact k
     clear ae;go_wp2_with(first|(at_builtin;refine wpList_append_own_at _ rfl _ _ 24 rfl w.heap.size 74 iR _ 1 8 Tryz.underlying24 ar.1 ar.2.1 ar.2.2.1 ar.2.2.2 rfl Aa _ _ _ rfl (OA _) ⟨u11.heap.size,0,none⟩ 1 1 [Value.int .u64 x2] rfl rfl ay ?c2 ?c3 ?c4 (aC _) ?_))
     case c2=>simp[Value.oneCell']
     case c3=>unfold maxLen;omega
     case c4=>omega
     intro v' u12 E A _ _;obtain⟨vb,M,rfl⟩:=BA E;obtain⟨ua,am,ba⟩:∃y,u11.alloc (.cells #[.int .u64 x2] 74)=y/\Bw u11 y:=⟨_,rfl,Ah⟩
     rw[am]at A;rw[<-bi.out]at A;have XA:=B.below ba;have ab:DW w p C n l {m with vR:=.slice vb (m.rs.length+1) M,rs:=m.rs++[x2]} u12:=XA.W.growR _ x2 bj A E;have D:=Br XA.X A (CF XA.X XA.W.R Aa);have ac:=Br XA.Z A (CF XA.Z XA.W.R Aa);have U:Hid (DX w p C n l q r {m with vR:=.slice vb (m.rs.length+1) M,rs:=m.rs++[x2]} (u12.setCell (Va q 0) (.slice vb (m.rs.length+1) M))):=DX.store ab D ac B.wq B.wr B.ne 0 _ rfl;have y0:=AJ D 0;have yf:=CS D;have yz:=(Cj.1 D).1;clear E A ba am XA ab D ac x0 xf xz B;go_wp2_with fail;go_roundw
     case rel=>exact⟨{m with vR:=.slice vb (m.rs.length+1) M,rs:=m.rs++[x2]},by have:=HK.out;simp;omega,by have:=HK.out;simp;omega,aA,aG,U⟩
     case measure=>simp[intOf];omega
    ·have a7:Hid (m.rs.length=8):=(by have:=HK.out;omega:m.rs.length=8)
     clear HK;go_wp2_with fail;refine(Bv p C n l 2 _ AB X5.W.K).mono ?_;rintro e u6⟨b1,rfl,f,c⟩;have X6:=hxy (X5.fw f c);obtain⟨⟨_,_,_,x3,_,_,_,_,_⟩,xf,xz⟩:=X6.cells;clear f c X5;go_upto_region 20 with fail;obtain⟨u7,bd,x7⟩:∃y,u6.setCell (Va q 3) (.bool b1)=y/\DX w p C n l q r {m with hz:=b1} y:=⟨_,rfl,X6.set {m with hz:=b1} 3 _ rfl rfl rfl rfl rfl rfl rfl⟩
     rw[bd];have X7:=hxy x7;clear bd x7 X6 x3 xf xz;go_wp2_with fail;refine(Bv p C n l 2 _ AB X7.W.K).mono ?_;rintro e u8⟨b2,rfl,f,c⟩;have X8:=hxy (X7.fw f c);obtain⟨⟨_,_,_,_,x4,_,_,_,_⟩,xf,xz⟩:=X8.cells;clear f c X7;go_upto_region 21 with fail;obtain⟨u9,al,x9⟩:∃y,u8.setCell (Va q 4) (.bool b2)=y/\DX w p C n l q r {m with hz:=b1,hc:=b2} y:=⟨_,rfl,X8.set {m with hz:=b1,hc:=b2} 4 _ rfl rfl rfl rfl rfl rfl rfl⟩
     rw[al];have X9:=hxy x9;clear al x9 X8 x4 xf xz;go_cut [2,3](fun s2 s3 wx=>s2=Vq r/\s3=Vq q/\∃b3,DX w p C n l q r {m with hz:=b1,hc:=b2,z:=b3} wx)
     case first=>
      obtain⟨⟨_,x1,_,x3,_,_,_,_,_⟩,xf,xz⟩:=X9.cells;cases b1 with
      |true=>
       go_wp2_with fail;refine(Bv p C n l 2 _ AB X9.W.K).mono ?_;rintro e u10⟨b3,rfl,f,c⟩;have N:=hxy (X9.fw f c);clear f c x1 x3 xf xz;obtain⟨⟨_,x1,_,x3,_,_,_,_,_⟩,xf,xz⟩:=N.cells;go_wp2_with fail;go_meet;exact⟨rfl,rfl,_,N.set {m with hz:=true,hc:=b2,z:=b3} 1 _ rfl rfl rfl rfl rfl rfl rfl⟩
      |false=>
       go_wp2_with fail;go_meet;exact⟨rfl,rfl,_,X9.set {m with hz:=false,hc:=b2,z:=false} 1 _ rfl rfl rfl rfl rfl rfl rfl⟩
     case rest=>
     clear X9;obtain⟨rfl,rfl,b3,fx⟩:=hcut;have N:=hxy fx;clear fx;generalize wc=u10 at N⊢;go_upto_region 22 with fail;go_cut [2,3](fun s2 s3 wx=>s2=Vq r/\s3=Vq q/\∃b4,DX w p C n l q r {m with hz:=b1,hc:=b2,z:=b3,c:=b4} wx)
     case first=>
      obtain⟨⟨_,_,x2,_,x4,_,_,_,_⟩,xf,xz⟩:=N.cells;cases b2 with
      |true=>
       go_wp2_with fail;refine(Bv p C n l 2 _ AB N.W.K).mono ?_;rintro e u11⟨b4,rfl,f,c⟩;have B:=hxy (N.fw f c);clear f c x2 x4 xf xz;obtain⟨⟨_,_,x2,_,x4,_,_,_,_⟩,xf,xz⟩:=B.cells;go_wp2_with fail;go_meet;exact⟨rfl,rfl,_,B.set {m with hz:=b1,hc:=true,z:=b3,c:=b4} 2 _ rfl rfl rfl rfl rfl rfl rfl⟩
      |false=>
       go_wp2_with fail;go_meet;exact⟨rfl,rfl,_,N.set {m with hz:=b1,hc:=false,z:=b3,c:=false} 2 _ rfl rfl rfl rfl rfl rfl rfl⟩
     case rest=>
     clear N;obtain⟨rfl,rfl,b4,fx⟩:=hcut;obtain⟨I,aF⟩:∃y:Md,{m with hz:=b1,hc:=b2,z:=b3,c:=b4}=y:=⟨_,rfl⟩
     have aa:Hid (I.rs.length=8/\I.hs.length<=3/\I.os=[]):=(by rw[<-aF];exact⟨a7.out,aG,aA⟩:I.rs.length=8/\I.hs.length<=3/\I.os=[])
     rw[aF]at fx;have B:=hxy fx;clear fx aF a7 aG aA;generalize wc=u11 at B⊢;go_wp2_with fail;refine(Bv p C n l 6 _ AB B.W.K).mono ?_;rintro e u12⟨z6,rfl,f,c⟩;have U:=hxy (B.fw f c);clear f c B;go_upto_if 101 with fail;go_cut [2,3](fun s2 s3 wx=>s2=Vq r/\s3=Vq q/\∃m:Md,m.rs.length=8/\m.hs.length<=3/\m.os.length<=1/\DX w p C n l q r m wx)
     case first=>
      cases z6 with
      |false=>
       go_wp2_with fail;go_meet;exact⟨rfl,rfl,I,aa.1,aa.2.1,by rw[aa.2.2];simp,U⟩
      |true=>
       obtain⟨oa,oc,ag⟩:=BA U.W.O;have aQ:=hxy ag;have j8:∀J:World,J.heap[q]?=some (.cells I.a 28)->J.cell? (Va q 8)=some (.slice oa I.os.length oc):=fun J h=>by rw[<-ag];exact AJ h 8
       have jf:∀J:World,J.heap[q]?=some (.cells I.a 28)->∀j,J.frozen? (Va q j)=false:=fun J h=>CS h
       have jz:∀J:World,J.heap[q]?=some (.cells I.a 28)->q<J.heap.size:=fun J h=>(Cj.1 h).1
       go_upto_region 24 with fail;have XD:Hid (DX w p C n l q r I u12.drew):=U.below Al.drew;have hT:=XD.X;refine Ak (T:=fun J=>J.heap[q]?=some (.cells I.a 28)) (s:=11) Ab hT (fun _=>?_);clear U ag;refine lQ [0,1,2,5] ?_;refine Ac (i:=3) rfl Ab (fun KK hK=>?_);go_simp;refine(AX p C n l 3 _ AB XD.W.K).mono ?_;rintro e v1⟨y,rfl,y0,y1,f,c⟩;have XE:=hxy (XD.fw f c);have a1:=XE.X;go_wp2_with fail;refine hK.out _ _ a1 (fun _=>?_);clear hK KK f c XD hT;refine Aj 4 ?_;refine Ac (i:=6) rfl Ab (fun KK hK=>?_);go_simp;refine(Jg p C n l _ XE.W.K).mono ?_;rintro e v2⟨x,rfl,aJ,f,c⟩;have XF:=hxy (XE.fw f c);have a2:=XF.X;go_wp2_with fail;refine hK.out _ _ a2 (fun _=>?_);clear hK KK f c XE a1;refine Aj 7 ?_;refine Ac (i:=8) rfl Ab (fun KK hK=>?_);go_simp;obtain⟨kk,a8⟩:=BG (IntKind.i64.wrap (1+y));rw[a8];clear a8;obtain⟨v3,be,a4,bc⟩:∃z,v2.alloc (.cells #[Vi kk,.int .u64 x] 109)=z/\Bw v2 z/\(∀j u,[Vi kk,.int .u64 x][j]?=some u->z.cell? ((⟨v2.heap.size,0,none⟩:Addr).add j)=some u):=⟨_,rfl,Ah,Ch v2 _ _⟩
       rw[be];have XG:=hxy (XF.below a4);have aP:=hxy bc;have a3:=XG.X;refine hK.out _ _ a3 (fun _=>?_);clear hK KK be a4 bc XF a2;refine BV ?_;have OH:Hid (v3.ownsRow w.heap.size 109 2 (.slice oa I.os.length oc) I.os.length (I.os.flatMap Xv)):=(by have k:=XG.W.O;rw[aQ.out]at k;exact k:v3.ownsRow w.heap.size 109 2 (.slice oa I.os.length oc) I.os.length (I.os.flatMap Xv))
       have ol:I.os.length<=0:=by rw[aa.2.2];exact BP
       obtain⟨v',v4,ax,E,A,_,_⟩:=run_append_own_at (P:=Tryz.prog) v3 w.heap.size 26 26 109 iO _ 2 16 Tryz.underlying26 ap.1 ap.2.1 ap.2.2.1 ap.2.2.2 rfl Aa (.slice oa I.os.length oc) I.os.length (I.os.flatMap Xv) OH ⟨v2.heap.size,0,none⟩ 1 1 [Vi kk,.int .u64 x] rfl aP (by simp[Value.oneCell']) (by unfold maxLen;omega) AB XG.W.F.size;obtain⟨vb,M,rfl⟩:=BA E;rw[<-aQ.out]at A;have ab:DW w p C n l {I with vO:=.slice vb (I.os.length+1) M,os:=I.os++[(kk,x)]} v4:=XG.W.growO _ (kk,x) A E;have D:=Br XG.X A (CF XG.X XG.W.O Aa);have ac:=Br XG.Z A (CF XG.Z XG.W.O Aa);have U:Hid (DX w p C n l q r {I with vO:=.slice vb (I.os.length+1) M,os:=I.os++[(kk,x)]} (v4.setCell (Va q 8) (.slice vb (I.os.length+1) M))):=DX.store ab D ac XG.wq XG.wr XG.ne 8 _ rfl;refine Ee (.tmp 103) (.tmp 110) (i:=9) rfl Ab Ab rfl rfl rfl ax D (fun _=>?_);refine BV ?_;refine BR 10 ?_;have y8:=j8 _ D;have yf:=jf _ D;have yz:=jz _ D;refine Ai rfl Ab Ab (fun KK hK=>?_);go_simp;refine hK.out _ _ ?_;clear hK KK E A ax ab D ac y8 yf yz j8 jf jz XG OH aP a3;go_wp2_with fail;go_meet;exact⟨rfl,rfl,{I with vO:=.slice vb (I.os.length+1) M,os:=I.os++[(kk,x)]},aa.1,aa.2.1,by rw[aa.2.2];simp,U⟩
     case rest=>
     clear U aa;obtain⟨rfl,rfl,m,h1,h2,h3,fx⟩:=hcut;have Y:=hxy fx;clear fx;generalize wc=u13 at Y⊢;obtain⟨ra,rc,ae⟩:=BA Y.W.R;obtain⟨ha,ad,L⟩:=BA Y.W.H;obtain⟨oa,oc,ag⟩:=BA Y.W.O;obtain⟨vR,fz,fc,av,au,vH,pc,st,vO,rs,hs,os⟩:=m;dsimp only at ae L ag h1 h2 h3;subst ae L ag;obtain⟨⟨x0,x1,x2,x3,x4,x5,x6,x7,x8⟩,xf,xz⟩:=Y.cells;dsimp only at x0 x1 x2 x3 x4 x5 x6 x7 x8;obtain⟨z0,z1,z2,z3,z4,z5,z6,z7,z8,zf,zz⟩:=z9 Y.Z;have bk:Hid (DW w p C n l ⟨.slice ra rs.length rc,fz,fc,av,au,.slice ha hs.length ad,pc,st,.slice oa os.length oc,rs,hs,os⟩ _):=Y.W.put9 Y.wr Y.Z (.slice ra rs.length rc) (.bool fz) (.bool fc) (.bool av) (.bool au) (.slice ha hs.length ad) (Vi pc) (Vi st) (.slice oa os.length oc);have bE:=Y.ne;have az:Hid (rs.length=8/\hs.length<=3/\os.length<=1):=⟨h1,h2,h3⟩
     clear Y h1 h2 h3;go_wp2;refine bodyPost_ret (v:=.agg #[.slice ra rs.length rc,.bool fz,.bool fc,.bool av,.bool au,.slice ha hs.length ad,Vi pc,Vi st,.slice oa os.length oc]) (by simp[results,Tryz.results44,go_sem,z0,z1,z2,z3,z4,z5,z6,z7,z8]) rfl ⟨⟨.slice ra rs.length rc,fz,fc,av,au,.slice ha hs.length ad,pc,st,.slice oa os.length oc,rs,hs,os⟩,rfl,az.1,az.2.1,az.2.2,bk⟩
end Go.Proofs.YtkckomianknjdaaGreat
