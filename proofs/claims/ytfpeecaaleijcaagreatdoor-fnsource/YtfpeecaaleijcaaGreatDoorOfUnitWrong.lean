import Derived.Test.YtfpeecaaleijcaaGreatDoorOfCl
import Derived.Test.YtfpeecaaleijcaaGreatDoorOfUnitSpec
import Derived.Maps.AppendAt
import Derived.Test.YtfpeecaaleijcaaGreatDoorOfUnitBlock
import Derived.Deep.QuietTactic
import Derived.BigQuiet
set_option maxHeartbeats 8000000
set_option maxRecDepth 20000
namespace Go.Proofs.YtfpeecaaleijcaaGreatDoor
open Go.RowKit
variable {i te:Nat}{L:Nat->SV}{w w':World}
def ER(L:Nat->SV)(i te:Nat):List Nat:=
 if _h:i<te then i::ER L (i+1+(L i).thn.toNat+(L i).els.toNat) te else[]
theorem ES(h:¬i<te):ER L i te=[]:=by rw[ER,dif_neg h]
theorem DW(h:i<te):ER L i te=i::ER L (i+1+(L i).thn.toNat+(L i).els.toNat) te:=by rw[ER,dif_pos h]
def iJ(w:World)(S:Nat->Prop)(v:Value)(xs:List Value):Prop:=w.ownsRow 0 112 1 v xs.length xs/\∀b,v.ownBlock=some b->S b
def Dg(L:Nat->SV):Nat->World->(Nat->Prop)->Value->Nat->Nat->Prop
 |0,_,_,v,i,te=>te<=i/\v=.slice none 0 0
 |m+1,w,S,v,i,te=>∃xs:List Value,iJ w S v xs/\xs.length=(ER L i te).length/\∀(k:Nat)(x:Value)(p:Nat),xs[k]?=some x->(ER L i te)[k]?=some p->
  ((L p).k=1/\x=.iface 114 (.agg #[Vi (p:Int),Vi (L p).op,Vi (L p).d,Vi (L p).a,Vi (L p).b,Vi (L p).imm,Vi (L p).h]))∨
  ((L p).k=2/\∃v1 v2,x=.iface 117 (.agg #[Vi (p:Int),Vi (L p).cond,v1,v2])/\Dg L m w S v1 (p+1) (p+1+(L p).thn.toNat)/\Dg L m w S v2 (p+1+(L p).thn.toNat) (p+1+(L p).thn.toNat+(L p).els.toNat))∨
  ((L p).k=3/\∃v1,x=.iface 120 (.agg #[Vi (p:Int),Vi (L p).cond,v1])/\Dg L m w S v1 (p+1) (p+1+(L p).thn.toNat))∨
  ((L p).k=4/\x=.iface 122 (.agg #[Vi (L p).proc]))
theorem Dg.kept{S S':Nat->Prop}(hs:∀b,S b->S' b)(hk:∀b,S b->b<w.heap.size->w'.heap[b]?=w.heap[b]?):∀(m:Nat){v:Value}{i te:Nat},Dg L m w S v i te->Dg L m w' S' v i te
 |0,_,_,_,h=>h
 |m+1,v,i,te,h=>by
  obtain⟨xs,⟨hr,hb⟩,hl,hx⟩:=h;refine⟨xs,⟨⟨hr.1,?_⟩,fun b h=>hs b (hb b h)⟩,hl,fun k x p h1 h2=>?_⟩
  ·rcases hr.2 with h|⟨g,cap,cur,rfl,h1,h2,h3⟩
   ·exact .inl h
   ·have hg:g<w.heap.size:=(jH.1 h2).1
    exact .inr ⟨g,cap,cur,rfl,h1,(hk g (hb g rfl) hg).trans h2,h3⟩
  ·rcases hx k x p h1 h2 with q|⟨q,v1,v2,e,r1,r2⟩|⟨q,v1,e,r1⟩|q
   ·exact .inl q
   ·exact .inr (.inl ⟨q,v1,v2,e,r1.kept hs hk m,r2.kept hs hk m⟩)
   ·exact .inr (.inr (.inl ⟨q,v1,e,r1.kept hs hk m⟩))
   ·exact .inr (.inr (.inr q))
theorem Dg.below{S:Nat->Prop}{m:Nat}{v:Value}(h:Dg L m w S v i te)(hb:Below w.heap.size w w'):Dg L m w' S v i te:=
 h.kept (fun _ h=>h) (fun b _ hl=>hb.block b hl)
theorem Rk(k:Nat)(x:Array Value)(w:World):(method (k+1) 114 (.agg x) "loop.example/s01319/impl.flatSize").run Tryz.prog w=.ok (216,.agg x) w:=by kernel_rfl
theorem Rf(k:Nat)(x:Array Value)(w:World):(method (k+1) 117 (.agg x) "loop.example/s01319/impl.flatSize").run Tryz.prog w=.ok (217,.agg x) w:=by kernel_rfl
theorem WL(k:Nat)(x:Array Value)(w:World):(method (k+1) 120 (.agg x) "loop.example/s01319/impl.flatSize").run Tryz.prog w=.ok (218,.agg x) w:=by kernel_rfl
theorem Vl(k:Nat)(x:Array Value)(w:World):(method (k+1) 122 (.agg x) "loop.example/s01319/impl.flatSize").run Tryz.prog w=.ok (219,.agg x) w:=by kernel_rfl
theorem Lx(a0 a1 a2 a3 a4 a5 a6:Value)(zv:Value)(w:World):
 Calls Tryz.prog 216 #[.agg #[a0,a1,a2,a3,a4,a5,a6],zv] w fun e w'=>e=.returned (Vi 1)/\Below w.heap.size w w':=by
 go_enter Tryz.func216,Tryz.ntmps216;go_wp2;go_ret;exact⟨rfl,Ak⟩
theorem Qc(q bz nz cz:Nat)(Z:Nat->Int)(w:World)(hZ:At w bz 0 nz (zF Z))(hq:q<nz):
 Calls Tryz.prog 219 #[.agg #[Vi (q:Int)],Vs bz nz cz] w fun e w'=>e=.returned (Vi (Z q))/\Below w.heap.size w w':=by
 have g0:w.cell? (Va bz q)=some (Vi (Z q)):=by have:=hZ.cell hq;rwa [Nat.zero_add]at this
 have hl:=hZ.lt;have hq':(q:Int)<(nz:Int):=by omega
 clear hZ;go_enter Tryz.func219,Tryz.ntmps219;go_wp2;go_ret;exact⟨rfl,Ak⟩
theorem Gv{me procs deep depth:Int}(h0:(CZ L me procs deep i te depth).1=0)(hlt:i<te):BG (L i) procs=true/\i+1+(L i).thn.toNat+(L i).els.toNat<=te/\(CZ L me procs deep (i+1) (i+1+(L i).thn.toNat) (depth+1)).1=0/\(CZ L me procs deep (i+1+(L i).thn.toNat) (i+1+(L i).thn.toNat+(L i).els.toNat) (depth+1)).1=0/\(CZ L me procs deep (i+1+(L i).thn.toNat+(L i).els.toNat) te depth).1=0:=by
 by_cases h1:BG (L i) procs=false
 ·rw[Lc hlt h1]at h0;exact absurd h0 (by simp)
 by_cases h2:i+1+(L i).thn.toNat+(L i).els.toNat<=te
 rotate_left
 ·rw[Fx hlt h1 h2]at h0;exact absurd h0 (by simp)
 by_cases h3:((L i).k=2∨(L i).k=3)/\deep<=depth
 ·rw[Gs hlt h1 h2 h3]at h0;exact absurd h0 (by simp)
 by_cases h4:(L i).k=4/\(L i).proc<=me
 ·rw[LX hlt h1 h2 h3 h4]at h0;exact absurd h0 (by simp)
 rw[JU hlt h1 h2 h3 h4]at h0;by_cases z1:(CZ L me procs deep (i+1) (i+1+(L i).thn.toNat) (depth+1)).1≠0
 ·rw[if_pos z1]at h0;exact absurd h0 z1
 rw[if_neg z1]at h0;by_cases z2:(CZ L me procs deep (i+1+(L i).thn.toNat) (i+1+(L i).thn.toNat+(L i).els.toNat) (depth+1)).1≠0
 ·rw[if_pos z2]at h0;exact absurd h0 z2
 rw[if_neg z2]at h0;exact⟨by simpa using h1,h2,by simpa using z1,by simpa using z2,h0⟩
theorem Yc(L:Nat->SV):∀(m i te:Nat),te-i<=m->(ER L i te).length<=te-i:=by
 intro m;induction m using Nat.strongRecOn with
 |ind m ih=>
 intro i te hm;by_cases h:i<te
 ·rw[DW h]
  have:=ih (te-(i+1+(L i).thn.toNat+(L i).els.toNat)) (by omega) (i+1+(L i).thn.toNat+(L i).els.toNat) te jG;simp only[List.length_cons];omega
 ·rw[ES h];simp
theorem Qz{s:SV}{procs:Int}(h:BG s procs=true):((s.k=1∨s.k=4)->s.thn=0/\s.els=0)/\(s.k=3->s.els=0):=by
 unfold BG at h;split at h
 ·simp at h;omega
 ·split at h
  ·simp at h;omega
  ·split at h
   ·simp at h;omega
   ·split at h
    ·simp at h;omega
    ·cases h
theorem Kg(ao:Option Addr)(cap:Nat)(zv:Value)(w:World):
 Calls Tryz.prog 71 #[.slice ao 0 cap,zv] w fun e w'=>e=.returned (Vi 0)/\w'=w:=by
 go_enter Tryz.func71,Tryz.ntmps71;go_wp2;go_loopw [5,10](fun tv iv wr=>iv=Vi 0/\tv=Vi 0/\wr=w)(fun _ _ _=>0)
 case atStart=>exact⟨rfl,rfl,rfl⟩
 case round=>
  obtain⟨rfl,rfl,rfl⟩:=hrel;go_wp2;go_ret;exact⟨rfl,rfl⟩
theorem Mj(a0 a1 v1 v2 zv:Value)(s1 s2:Int)(w:World)(b1:0<=s1)(b2:s1<=1099511627776)(b3:0<=s2)(b4:s2<=1099511627776)
 (h1:∀w',Below w.heap.size w w'->Calls Tryz.prog 71 #[v1,zv] w' fun e v=>e=.returned (Vi s1)/\Below w'.heap.size w' v)
 (h2:∀w',Below w.heap.size w w'->Calls Tryz.prog 71 #[v2,zv] w' fun e v=>e=.returned (Vi s2)/\Below w'.heap.size w' v):
 Calls Tryz.prog 217 #[.agg #[a0,a1,v1,v2],zv] w fun e w'=>e=.returned (Vi (2+s1+s2))/\Below w.heap.size w w':=by
 have H1:Hid _:=h1;have H2:Hid _:=h2;clear h1 h2;go_enter Tryz.func217,Tryz.ntmps217;go_upto_region 1 with fail;obtain⟨u,hu,hb,hc⟩:∃x,w.alloc (.cells #[a0,a1,v1,v2] 117)=x/\Below w.heap.size w x/\Cl x w.heap.size [a0,a1,v1,v2]:=⟨_,rfl,Ak,Cl.new⟩
 rw[hu];have B0:=hxy hb;have C0:=hxy hc;clear hu hb hc;have r2:∀w',Below u.heap.size u w'->w'.cell? ⟨w.heap.size,2,none⟩=some v1:=fun w' h=>(C0.out.below h).2 2 (by simp)
 have r3:∀w',Below u.heap.size u w'->w'.cell? ⟨w.heap.size,3,none⟩=some v2:=fun w' h=>(C0.out.below h).2 3 (by simp)
 refine wp_region_held_drew (S:=fun w'=>Below u.heap.size u w') (by kernel_rfl) (Below.refl _ _).drew (fun hd0=>?_);generalize u.drew=t0 at hd0⊢;refine AB 0 rfl ?_;refine AB 1 rfl ?_;refine AB 2 rfl ?_;refine AB 5 rfl ?_;refine AB 6 rfl ?_;refine AB 7 rfl ?_;refine AO 3 rfl (fun KK hK=>?_);go_simp;refine(H1.out _ (B0.out.trans (hd0.mono B0.out.size))).mono ?_;rintro e t1⟨rfl,hb⟩;have hd1:=hd0.trans (hb.mono hd0.size);clear hb;go_wp2_with fail;refine hK.out _ _ hd1 (fun hHeld=>?_);clear hK KK;try simp only[Act.put,BP,BN,BK,BQ,BS,BM]
 have f1:IntKind.i64.wrap (2+s1)=2+s1:=by rw[IntKind.wrap_i64];omega
 have f2:IntKind.i64.wrap (2+s1+s2)=2+s1+s2:=by rw[IntKind.wrap_i64];omega
 refine AB 4 rfl ?_;refine AO 8 rfl (fun KK hK=>?_);go_simp;refine(H2.out _ (B0.out.trans (hd1.mono B0.out.size))).mono ?_;rintro e t2⟨rfl,hb⟩;have hd2:=hd1.trans (hb.mono hd1.size);clear hb;go_wp2_with fail;refine hK.out _ _ hd2 (fun hHeld2=>?_);clear hK KK;try simp only[Act.put,BP,BN,BK,BQ,BS,BM]
 refine AB 9 rfl ?_
 refine AB 10 rfl ?_
 refine wpAnyH_done (by kernel_rfl) ?_ _
 have B9:=hxy (B0.out.trans (hd2.mono B0.out.size))
 clear r2 r3 hd0 hd1 hd2 hHeld hHeld2
 go_wp2
 go_ret
 exact⟨rfl,B9.out⟩
theorem PY(a0 a1 v1 zv:Value)(s1:Int)(w:World)(b1:0<=s1)(b2:s1<=1099511627776)
 (h1:∀w',Below w.heap.size w w'->Calls Tryz.prog 71 #[v1,zv] w' fun e v=>e=.returned (Vi s1)/\Below w'.heap.size w' v):
 Calls Tryz.prog 218 #[.agg #[a0,a1,v1],zv] w fun e w'=>e=.returned (Vi (2+s1))/\Below w.heap.size w w':=by
 have H1:Hid _:=h1;clear h1;go_enter Tryz.func218,Tryz.ntmps218;go_wp2_with fail;have b0:Below w.heap.size w (w.alloc (.cells #[a0,a1,v1] 120)):=Ak;refine(H1.out _ b0).mono ?_;rintro e t1⟨rfl,hb⟩;have B9:=hxy (b0.trans (hb.mono b0.size));clear hb b0;go_wp2;go_ret;exact⟨rfl,B9.out⟩
theorem Nf(L:Nat->SV)(bz nz cz:Nat)(Z:Nat->Int)(w0:World)(z0:∀i,0<=Z i)(z1:∀i,Z i<=2001)(hZ:At w0 bz 0 nz (zF Z))(me deep:Int):∀(m i te:Nat)(depth:Int)(v:Value)(S:Nat->Prop)(w:World),Below w0.heap.size w0 w->Dg L m w S v i te->i<=te->te<=2000->(CZ L me (nz:Int) deep i te depth).1=0->
 Calls Tryz.prog 71 #[v,Vs bz nz cz] w fun e w'=>e=.returned (Vi (Bf L Z te-Bf L Z i))/\Below w.heap.size w w':=by
 have zle:∀k:Nat,Bf L Z k<=2001*(k:Int):=fun k=>by
  induction k with
  |zero=>simp[Bf]
  |succ k ih=>
   have:=fB (s:=L k) z1;show Bf L Z k+wI (L k) Z<=_;omega
 have ZLE:=hxy zle;have Z0:=hxy z0;have HZ:=hxy hZ;clear zle z0 z1 hZ;intro m;induction m with
 |zero=>
  intro i te depth v S w _ hr hit _ _;obtain⟨h1,rfl⟩:=hr;obtain rfl:i=te:=by omega
  refine(Kg none 0 _ w).mono ?_;rintro e w'⟨rfl,rfl⟩;exact⟨Bp (by omega),Below.refl _ _⟩
 |succ m ih=>
  intro i te depth v S w hw0 hr hit h2k hck;obtain⟨xs,hrow,hxl,hx⟩:=hr;by_cases hit2:i=te
  ·subst hit2
   have hl0:xs.length=0:=by rw[hxl,ES (by omega)];rfl
   have hv:∃ao cap,v=.slice ao 0 cap:=by
    rcases hrow.1.2 with⟨e,_⟩|⟨g,cap,cur,e,_⟩
    ·exact⟨_,_,e⟩
    ·rw[hl0]at e;exact⟨_,_,e⟩
   obtain⟨ao,cap,rfl⟩:=hv;refine(Kg ao cap _ w).mono ?_;rintro e w'⟨rfl,rfl⟩;exact⟨Bp (by omega),Below.refl _ _⟩
  have hlx:0<xs.length:=by rw[hxl,DW (by omega)];simp
  have hl2k:xs.length<=2000:=by rw[hxl];exact Nat.le_trans (Yc L _ i te jG) (by omega)
  obtain⟨g,cv,hv⟩:=Hu hrow.1 hlx;subst hv;have lgw:g<w.heap.size:=(hrow.1.lt g rfl).2;have HW0:=hxy hw0;have HROW:=hxy hrow;have HXL:=hxy hxl;have HX:Hid _:=hx;have HCK:=hxy hck;have IH:Hid _:=ih;clear hw0 hrow hxl hx hck ih;obtain⟨res,hres⟩:=Ae (Bf L Z te-Bf L Z i);rw[hres];have HRES:=hxy hres;clear hres;obtain⟨nx,hnx⟩:=Ae xs.length;have HNX:=hxy hnx;rw[hnx]at hlx hl2k⊢;clear hnx;go_enter Tryz.func71,Tryz.ntmps71;go_wp2;go_loopw [5,10](fun tv iv wr=>∃(q p:Nat),q<=nx/\i<=p/\p<=te/\iv=Vi (q:Int)/\tv=Vi (Bf L Z p-Bf L Z i)/\Below w.heap.size w wr/\(ER L i te).drop q=ER L p te/\(CZ L me (nz:Int) deep p te depth).1=0)(fun _ iv _=>nx-(intOf iv).toNat)
  case atStart=>exact⟨0,i,Nat.zero_le _,jG,hit,rfl,by simp,Below.refl _ _,by simp,HCK.out⟩
  case round=>
   obtain⟨q,p,hq,hip,hpt,rfl,rfl,hbr,hdr,hcp⟩:=hrel;have BR:=hxy hbr;have HDR:=hxy hdr;have HCP:=hxy hcp;clear hbr hdr hcp;have t0:=E9 (L:=L) Z0.out hip;have t1:=ZLE.out p;have t2:=Ej (L:=L) Z0.out i;by_cases hlt:p<te
   rotate_left
   ·obtain rfl:p=te:=by omega
    have hqn:q=nx:=by
     have h:=congrArg List.length HDR.out;rw[List.length_drop,<-HXL.out,HNX.out,ES (i:=p) (te:=p) (by omega)]at h;simp at h;omega
    have hqx':¬(q:Int)<(nx:Int):=by omega
    clear t0 t1 t2;go_wp2;go_ret;exact⟨Bp (by rw[<-HRES.out]),BR.out⟩
   have hqx:q<nx:=by
    have h:=congrArg List.length HDR.out;rw[List.length_drop,<-HXL.out,HNX.out,DW hlt]at h;simp at h;omega
   have hqx':(q:Int)<(nx:Int):=by omega
   obtain⟨x,hxq⟩:∃x,xs[q]?=some x:=⟨xs[q]'(by rw[HNX.out];exact hqx),by simp[HNX.out,hqx]⟩
   have hpq:(ER L i te)[q]?=some p:=by
    have h:=congrArg (fun l=>l[0]?) HDR.out;simp only[DW hlt,List.getElem?_drop,Nat.add_zero,List.getElem?_cons_zero]at h;exact h
   have hdn:(ER L i te).drop (q+1)=ER L (p+1+(L p).thn.toNat+(L p).els.toNat) te:=by
    have h:=congrArg (List.drop 1) HDR.out;rw[List.drop_drop,DW hlt]at h;simpa[Nat.add_comm]using h
   have g0:wr.cell? (Va g q)=some x:=by
    rw[BR.out.cell (p:=Va g q) lgw,HROW.out.1.cellAt q (by rw[HNX.out];omega)];exact hxq
   obtain⟨sok,hnt,c1,c2,c3⟩:=Gv HCP.out hlt;have HSOK:=hxy sok;have HC1:Hid _:=c1;have HC2:Hid _:=c2;have HC3:Hid _:=c3;have HDN:Hid _:=hdn;have HNT:=hxy hnt;have HP1:Hid (Bf L Z (p+1)=Bf L Z p+wI (L p) Z):=rfl;have hcase:=HX.out q x p hxq hpq;clear sok c1 c2 c3 hdn hnt hxq hpq;have hthn:Hid ((L p).k=1∨(L p).k=4->(L p).thn.toNat=0/\(L p).els.toNat=0):=(fun h=>by have:=(Qz HSOK.out).1 h;omega:(L p).k=1∨(L p).k=4->(L p).thn.toNat=0/\(L p).els.toNat=0)
   have hels:Hid ((L p).k=3->(L p).els.toNat=0):=(fun h=>by have:=(Qz HSOK.out).2 h;omega:(L p).k=3->(L p).els.toNat=0)
   rcases hcase with⟨k1,rfl⟩|⟨k2,v1,v2,rfl,r1,r2⟩|⟨k3,v1,rfl,r1⟩|⟨k4,rfl⟩
   ·obtain⟨ea,eb⟩:=hthn.out (.inl k1)
    have HQ:Hid (Bf L Z (p+1+(L p).thn.toNat+(L p).els.toNat)=Bf L Z p+1):=(by rw[ea,eb];show Bf L Z p+wI (L p) Z=_;simp[wI,k1]:Bf L Z (p+1+(L p).thn.toNat+(L p).els.toNat)=Bf L Z p+1)
    have hm:=Rk;clear k1 ea eb;go_wp2_with fail;refine(Lx _ _ _ _ _ _ _ _ _).mono ?_;rintro e u1⟨rfl,hb⟩;have B2:=hxy (BR.out.trans (hb.mono BR.out.size));clear hb hm g0;go_wp2;go_roundw
    case rel=>exact⟨q+1,p+1+(L p).thn.toNat+(L p).els.toNat,by omega,by omega,HNT.out,by go_num,by rw[HQ.out];congr 1;omega,B2.out,HDN.out,HC3.out⟩
    case measure=>simp[intOf];omega
   ·have HQ:Hid (Bf L Z (p+1)=Bf L Z p+2):=(by show Bf L Z p+wI (L p) Z=_;simp[wI,k2]:Bf L Z (p+1)=Bf L Z p+2)
    have hm:=Rf;have m1:=E9 (L:=L) Z0.out (show p+1<=p+1+(L p).thn.toNat by omega);have m2:=E9 (L:=L) Z0.out (show p+1+(L p).thn.toNat<=p+1+(L p).thn.toNat+(L p).els.toNat by omega);have m3:=ZLE.out (p+1+(L p).thn.toNat+(L p).els.toNat);have m4:=Ej (L:=L) Z0.out (p+1);have hn:=HNT.out;obtain⟨s1,hs1⟩:=Ae (Bf L Z (p+1+(L p).thn.toNat)-Bf L Z (p+1));obtain⟨s2,hs2⟩:=Ae (Bf L Z (p+1+(L p).thn.toNat+(L p).els.toNat)-Bf L Z (p+1+(L p).thn.toNat));have HS1:Hid _:=hs1;have HS2:Hid _:=hs2;have y0:0<=s1:=by omega
    have y1:s1<=1099511627776:=by omega
    have y2:0<=s2:=by omega
    have y3:s2<=1099511627776:=by omega
    have y4:s1+s2<=4002000:=by omega
    have R1:=hxy r1;have R2:=hxy r2;clear k2 r1 r2 m1 m2 m3 m4 hn hs1 hs2;go_wp2_with fail;refine(Mj _ _ v1 v2 _ s1 s2 _ y0 y1 y2 y3 (fun w' hb'=>?h1) (fun w' hb'=>?h2)).mono ?_
    case h1=>
     have hbb:=BR.out.trans (hb'.mono BR.out.size);have hn:=HNT.out;have h:=IH.out (p+1) (p+1+(L p).thn.toNat) (depth+1) v1 S w' (HW0.out.trans (hbb.mono HW0.out.size)) (R1.out.below hbb) (by omega) (by omega) HC1.out;rw[HS1.out]at h;exact h
    case h2=>
     have hbb:=BR.out.trans (hb'.mono BR.out.size);have hn:=HNT.out;have h:=IH.out (p+1+(L p).thn.toNat) (p+1+(L p).thn.toNat+(L p).els.toNat) (depth+1) v2 S w' (HW0.out.trans (hbb.mono HW0.out.size)) (R2.out.below hbb) (by omega) (by omega) HC2.out;rw[HS2.out]at h;exact h
    rintro e u1⟨rfl,hb⟩;have B2:=hxy (BR.out.trans (hb.mono BR.out.size));clear hb hm g0;go_wp2;go_roundw
    case rel=>exact⟨q+1,p+1+(L p).thn.toNat+(L p).els.toNat,by omega,by omega,HNT.out,by go_num,by have q1:=HS1.out;have q2:=HS2.out;have q3:=HQ.out;congr 1;omega,B2.out,HDN.out,HC3.out⟩
    case measure=>simp[intOf];omega
   ·have ee:=hels.out k3
    have HQ:Hid (Bf L Z (p+1)=Bf L Z p+2):=(by show Bf L Z p+wI (L p) Z=_;simp[wI,k3]:Bf L Z (p+1)=Bf L Z p+2)
    have hm:=WL;have m1:=E9 (L:=L) Z0.out (show p+1<=p+1+(L p).thn.toNat by omega);have m3:=ZLE.out (p+1+(L p).thn.toNat);have m4:=Ej (L:=L) Z0.out (p+1);have hn:=HNT.out;obtain⟨s1,hs1⟩:=Ae (Bf L Z (p+1+(L p).thn.toNat)-Bf L Z (p+1));have HS1:Hid _:=hs1;have HEE:=hxy ee;have y0:0<=s1:=by omega
    have y1:s1<=4002000:=by omega
    have R1:=hxy r1;clear k3 r1 m1 m3 m4 hn hs1 ee;go_wp2_with fail;refine(PY _ _ v1 _ s1 _ y0 (by omega) (fun w' hb'=>?h1)).mono ?_
    case h1=>
     have hbb:=BR.out.trans (hb'.mono BR.out.size);have hn:=HNT.out;have h:=IH.out (p+1) (p+1+(L p).thn.toNat) (depth+1) v1 S w' (HW0.out.trans (hbb.mono HW0.out.size)) (R1.out.below hbb) (by omega) (by omega) HC1.out;rw[HS1.out]at h;exact h
    rintro e u1⟨rfl,hb⟩;have B2:=hxy (BR.out.trans (hb.mono BR.out.size));clear hb hm g0;go_wp2;go_roundw
    case rel=>exact⟨q+1,p+1+(L p).thn.toNat+(L p).els.toNat,by omega,by omega,HNT.out,by go_num,by have q1:=HS1.out;have q3:=HQ.out;rw[HEE.out];congr 1;simp only[Nat.add_zero];omega,B2.out,HDN.out,HC3.out⟩
    case measure=>simp[intOf];omega
   ·obtain⟨ea,eb⟩:=hthn.out (.inr k4)
    obtain⟨q0,q1⟩:=Jv HSOK.out k4;obtain⟨y,hy⟩:∃y:Nat,(L p).proc=(y:Int):=⟨(L p).proc.toNat,by omega⟩
    have HQ:Hid (Bf L Z (p+1+(L p).thn.toNat+(L p).els.toNat)=Bf L Z p+Z y):=(by rw[ea,eb];show Bf L Z p+wI (L p) Z=_;simp[wI,k4,hy]:Bf L Z (p+1+(L p).thn.toNat+(L p).els.toNat)=Bf L Z p+Z y)
    have hm:=Vl;rw[hy]at g0;have hyn:y<nz:=by omega
    have m3:=ZLE.out (p+1+(L p).thn.toNat+(L p).els.toNat);rw[HQ.out]at m3;have hn:=HNT.out;have z0y:=Z0.out y;have z2y:Bf L Z p-Bf L Z i+Z y<=8004000:=by omega
    have HW1:=hxy (HW0.out.trans (BR.out.mono HW0.out.size));clear k4 ea eb q0 q1 hy m3 hn;go_wp2_with fail;refine(Qc y bz nz cz Z _ (HZ.out.below HW1.out HZ.out.lt) hyn).mono ?_;rintro e u1⟨rfl,hb⟩;have B2:=hxy (BR.out.trans (hb.mono BR.out.size));clear hb hm g0;go_wp2;go_roundw
    case rel=>exact⟨q+1,p+1+(L p).thn.toNat+(L p).els.toNat,by omega,by omega,HNT.out,by go_num,by rw[HQ.out];congr 1;omega,B2.out,HDN.out,HC3.out⟩
    case measure=>simp[intOf];omega
def DL(s:SV)(own procs dmax room depth:Int):Int:=
 if BG s procs=false then 2 else if room<s.thn∨room-s.thn<s.els then 3 else if(s.k=2∨s.k=3)/\dmax<depth then 4 else if s.k=4/\s.proc<=own then 5 else 0
theorem Gt{B:Nat}(h:Below B w w')(n:Nat):Below B w (w'.drewN n):=h.trans ⟨rfl,rfl,rfl,jG,fun _ _=>rfl⟩
theorem WJ(t:Nat)(Qn:Value)(own procs dmax err pos:Int)(s:SV)(room depth:Int)(w:World)(hT:Cl w t [Qn,Vi own,Vi procs,Vi dmax,Vi err,Vi pos])(r0:0<=room)(r1:room<=1048576):
 Calls Tryz.prog 69 #[Vq t,.agg #[Vi s.k,Vi s.op,Vi s.d,Vi s.a,Vi s.b,Vi s.imm,Vi s.h,Vi s.cond,Vi s.thn,Vi s.els,Vi s.proc],Vi room,Vi depth] w fun e w'=>e=.returned (Vi (DL s own procs dmax room depth))/\Below w.heap.size w w':=by
 obtain⟨res,hres⟩:=Ae (DL s own procs dmax room depth);rw[hres];have HR:=hxy hres;have HT:=hxy hT;have lt:=hT.1;clear hres hT;go_enter Tryz.func69,Tryz.ntmps69;go_upto_region 1 with fail;obtain⟨u,hu,hb,hc⟩:∃x,w.alloc (.cells #[Vi s.k,Vi s.op,Vi s.d,Vi s.a,Vi s.b,Vi s.imm,Vi s.h,Vi s.cond,Vi s.thn,Vi s.els,Vi s.proc] 89)=x/\Below w.heap.size w x/\Cl x w.heap.size [Vi s.k,Vi s.op,Vi s.d,Vi s.a,Vi s.b,Vi s.imm,Vi s.h,Vi s.cond,Vi s.thn,Vi s.els,Vi s.proc]:=⟨_,rfl,Ak,Cl.new⟩
 rw[hu];have B0:=hxy hb;have C0:=hxy hc;have T0:=hxy (HT.out.below hb);clear hu hb hc HT;have lu:=C0.out.1;have r0:∀w',Below u.heap.size u w'->w'.cell? ⟨w.heap.size,0,none⟩=some (Vi s.k):=fun w' h=>(C0.out.below h).2 0 (by simp)
 have r1:∀w',Below u.heap.size u w'->w'.cell? ⟨w.heap.size,1,none⟩=some (Vi s.op):=fun w' h=>(C0.out.below h).2 1 (by simp)
 have r2:∀w',Below u.heap.size u w'->w'.cell? ⟨w.heap.size,2,none⟩=some (Vi s.d):=fun w' h=>(C0.out.below h).2 2 (by simp)
 have r3:∀w',Below u.heap.size u w'->w'.cell? ⟨w.heap.size,3,none⟩=some (Vi s.a):=fun w' h=>(C0.out.below h).2 3 (by simp)
 have r4:∀w',Below u.heap.size u w'->w'.cell? ⟨w.heap.size,4,none⟩=some (Vi s.b):=fun w' h=>(C0.out.below h).2 4 (by simp)
 have r5:∀w',Below u.heap.size u w'->w'.cell? ⟨w.heap.size,5,none⟩=some (Vi s.imm):=fun w' h=>(C0.out.below h).2 5 (by simp)
 have r6:∀w',Below u.heap.size u w'->w'.cell? ⟨w.heap.size,6,none⟩=some (Vi s.h):=fun w' h=>(C0.out.below h).2 6 (by simp)
 have r7:∀w',Below u.heap.size u w'->w'.cell? ⟨w.heap.size,7,none⟩=some (Vi s.cond):=fun w' h=>(C0.out.below h).2 7 (by simp)
 have r8:∀w',Below u.heap.size u w'->w'.cell? ⟨w.heap.size,8,none⟩=some (Vi s.thn):=fun w' h=>(C0.out.below h).2 8 (by simp)
 have r9:∀w',Below u.heap.size u w'->w'.cell? ⟨w.heap.size,9,none⟩=some (Vi s.els):=fun w' h=>(C0.out.below h).2 9 (by simp)
 have r10:∀w',Below u.heap.size u w'->w'.cell? ⟨w.heap.size,10,none⟩=some (Vi s.proc):=fun w' h=>(C0.out.below h).2 10 (by simp)
 have q2:∀w',Below u.heap.size u w'->w'.cell? (Va t 2)=some (Vi procs):=fun w' h=>(T0.out.below h).2 2 (by simp)
 refine wp_region_held_drew (S:=fun w'=>Below u.heap.size u w') (by kernel_rfl) (Below.refl _ _).drew (fun hd0=>?_);generalize u.drew=v0 at hd0⊢;refine AB 0 rfl ?_;refine AB 1 rfl ?_;refine AB 2 rfl ?_;refine AB 3 rfl ?_;refine AB 4 rfl ?_;refine AO 5 rfl (fun KK hK=>?_);go_simp;refine(Na s procs _).mono ?_;rintro e u1⟨rfl,hb⟩;have hd1:=hd0.trans (hb.mono hd0.size);clear hb;obtain⟨ok,hok⟩:=Ae (BG s procs);rw[hok];have HOK:=hxy hok;clear hok;go_wp2_with fail;refine hK.out _ _ hd1 (fun hHeld=>?_);clear hK KK;try simp only[Act.put,BP,BN,BK,BQ,BS,BM]
 refine AB 6 rfl ?_;refine AB 7 rfl ?_;refine wpAnyH_done (by kernel_rfl) ?_ _;clear r0 r1 r2 r3 r4 r5 r6 r7 r8 r9 r10 q2;have B1:=hxy (B0.out.trans (hd1.mono B0.out.size));have C1:=hxy (C0.out.below hd1);have T1:=hxy (T0.out.below hd1);clear hd0 hd1 hHeld B0 C0 T0;obtain⟨c0,c1,c2,c3,c4,c5,c6,c7,c8,c9,c10⟩:=Gx C1.out;have zc:=C1.out.1;have zt:=T1.out.1;have t1:u1.cell? (Va t 1)=some (Vi own):=T1.out.2 1 (by simp);have t3:u1.cell? (Va t 3)=some (Vi dmax):=T1.out.2 3 (by simp);cases ok with
 |false=>
  go_wp2;go_ret;exact⟨Bp (by rw[<-HR.out,DL,if_pos HOK.out]),B1.out⟩
 |true=>
 obtain⟨tp,ep⟩:=KN HOK.out;have H1:Hid (¬BG s procs=false):=(by rw[HOK.out];decide:¬BG s procs=false)
 by_cases h1:room<s.thn
 ·have e1:decide (room<s.thn)=true:=by simp[h1]
  go_wp2;go_ret;exact⟨Bp (by rw[<-HR.out,DL,if_neg H1.out,if_pos (Or.inl h1)]),B1.out⟩
 have e1:decide (room<s.thn)=false:=by simp;omega
 by_cases h2:room-s.thn<s.els
 ·have e2:decide (room-s.thn<s.els)=true:=by simp[h2]
  go_wp2;go_ret;exact⟨Bp (by rw[<-HR.out,DL,if_neg H1.out,if_pos (Or.inr h2)]),B1.out⟩
 have e2:decide (room-s.thn<s.els)=false:=by simp;omega
 have H2:Hid (¬(room<s.thn∨room-s.thn<s.els)):=(by omega:¬(room<s.thn∨room-s.thn<s.els))
 have hle:s.thn<=room:=by omega
 clear h1 h2;by_cases h3:(s.k=2∨s.k=3)/\dmax<depth
 ·have H3:=hxy h3
  have e4:decide (dmax<depth)=true:=by simp[h3.2]
  by_cases h2:s.k=2
  ·have e3:(s.k==2)=true:=by simp[h2]
   clear h3 h2;go_wp2;go_ret;exact⟨Bp (by rw[<-HR.out,DL,if_neg H1.out,if_neg H2.out,if_pos H3.out]),B1.out⟩
  ·have e3:(s.k==2)=false:=by simp[h2]
   have e5:(s.k==3)=true:=by rcases h3.1 with q|q<;>simp_all
   clear h3 h2;go_wp2;go_ret;exact⟨Bp (by rw[<-HR.out,DL,if_neg H1.out,if_neg H2.out,if_pos H3.out]),B1.out⟩
 have H3:=hxy h3;clear h3;go_upto_region 5 with fail;go_cut [31](fun s31 wx=>s31=.bool false/\wx=u1)
 case first=>
  by_cases h2:s.k=2
  ·have e3:(s.k==2)=true:=by simp[h2]
   have e4:decide (dmax<depth)=false:=by have:=H3.out;simp;omega
   clear h2;go_wp2_with fail;go_meet;exact⟨rfl,rfl⟩
  ·have e3:(s.k==2)=false:=by simp[h2]
   by_cases h5:s.k=3
   ·have e5:(s.k==3)=true:=by simp[h5]
    have e4:decide (dmax<depth)=false:=by have:=H3.out;simp;omega
    clear h2 h5;go_wp2_with fail;go_meet;exact⟨rfl,rfl⟩
   ·have e5:(s.k==3)=false:=by simp[h5]
    clear h2 h5;go_wp2_with fail;go_meet;exact⟨rfl,rfl⟩
 case rest=>
  obtain⟨rfl,hw⟩:=hcut;rw[hw];clear hw e1 e2;go_upto_region 7 with fail;by_cases k4:s.k=4
  ·have a4:(s.k==4)=true:=by simp[k4]
   have K4:=hxy k4;clear k4;by_cases h5:s.proc<=own
   ·have e5:decide (s.proc<=own)=true:=by simp[h5]
    go_quiet(fail);go_wp2;go_ret;exact⟨Bp (by rw[<-HR.out,DL,if_neg H1.out,if_neg H2.out,if_neg H3.out,if_pos ⟨K4.out,h5⟩]),Gt B1.out _⟩
   ·have e5:decide (s.proc<=own)=false:=by simp;omega
    have H5:=hxy h5;clear h5;go_quiet(fail);go_wp2;go_ret;exact⟨Bp (by rw[<-HR.out,DL,if_neg H1.out,if_neg H2.out,if_neg H3.out,if_neg (fun x=>by have:=H5.out;have:=x.2;omega)]),Gt B1.out _⟩
  ·have a4:(s.k==4)=false:=by simp[k4]
   have K4:=hxy k4;clear k4;go_quiet(fail);go_wp2;go_ret;exact⟨Bp (by rw[<-HR.out,DL,if_neg H1.out,if_neg H2.out,if_neg H3.out,if_neg (fun x=>K4.out x.1)]),Gt B1.out _⟩
end Go.Proofs.YtfpeecaaleijcaaGreatDoor
