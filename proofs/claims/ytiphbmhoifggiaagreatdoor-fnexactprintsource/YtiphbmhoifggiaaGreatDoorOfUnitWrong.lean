import Derived.Test.YtiphbmhoifggiaaGreatDoorUnitSpec
import Derived.Maps.AppendAt
import Derived.Test.YtiphbmhoifggiaaGreatDoorUnitBlock
import Derived.Deep.QuietTactic
import Derived.BigQuiet
set_option maxHeartbeats 8000000
set_option maxRecDepth 20000
namespace Go.Proofs.YtiphbmhoifggiaaGreatDoor
open Go.RowKit
def tops(L:Nat->SV)(i te:Nat):List Nat:=
 if _h:i<te then i::tops L (i+1+(L i).thn.toNat+(L i).els.toNat) te else[]
theorem tops_end{L:Nat->SV}{i te:Nat}(h:¬i<te):tops L i te=[]:=by rw[tops,dif_neg h]
theorem tops_more{L:Nat->SV}{i te:Nat}(h:i<te):tops L i te=i::tops L (i+1+(L i).thn.toNat+(L i).els.toNat) te:=by rw[tops,dif_pos h]
def RowS(w:World)(S:Nat->Prop)(v:Value)(xs:List Value):Prop:=w.ownsRow 0 118 1 v xs.length xs/\∀b,v.ownBlock=some b->S b
def RepN(L:Nat->SV):Nat->World->(Nat->Prop)->Value->Nat->Nat->Prop
 |0,_,_,v,i,te=>te<=i/\v=.slice none 0 0
 |m+1,w,S,v,i,te=>∃xs:List Value,RowS w S v xs/\xs.length=(tops L i te).length/\∀(k:Nat)(x:Value)(p:Nat),xs[k]?=some x->(tops L i te)[k]?=some p->
  ((L p).k=1/\x=.iface 120 (.agg #[.int .i64 (p:Int),.int .i64 (L p).op,.int .i64 (L p).d,.int .i64 (L p).a,.int .i64 (L p).b,.int .i64 (L p).imm,.int .i64 (L p).h]))∨
  ((L p).k=2/\∃v1 v2,x=.iface 123 (.agg #[.int .i64 (p:Int),.int .i64 (L p).cond,v1,v2])/\RepN L m w S v1 (p+1) (p+1+(L p).thn.toNat)/\RepN L m w S v2 (p+1+(L p).thn.toNat) (p+1+(L p).thn.toNat+(L p).els.toNat))∨
  ((L p).k=3/\∃v1,x=.iface 126 (.agg #[.int .i64 (p:Int),.int .i64 (L p).cond,v1])/\RepN L m w S v1 (p+1) (p+1+(L p).thn.toNat))∨
  ((L p).k=4/\x=.iface 128 (.agg #[.int .i64 (L p).proc]))
theorem RepN.kept{L:Nat->SV}{w w':World}{S S':Nat->Prop}(hs:∀b,S b->S' b)(hk:∀b,S b->b<w.heap.size->w'.heap[b]?=w.heap[b]?):∀(m:Nat){v:Value}{i te:Nat},RepN L m w S v i te->RepN L m w' S' v i te
 |0,_,_,_,h=>h
 |m+1,v,i,te,h=>by
  obtain⟨xs,⟨hr,hb⟩,hl,hx⟩:=h;refine⟨xs,⟨⟨hr.1,?_⟩,fun b h=>hs b (hb b h)⟩,hl,fun k x p h1 h2=>?_⟩
  ·rcases hr.2 with h|⟨g,cap,cur,rfl,h1,h2,h3⟩
   ·exact .inl h
   ·have hg:g<w.heap.size:=(Array.getElem?_eq_some_iff.1 h2).1
    exact .inr ⟨g,cap,cur,rfl,h1,(hk g (hb g rfl) hg).trans h2,h3⟩
  ·rcases hx k x p h1 h2 with q|⟨q,v1,v2,e,r1,r2⟩|⟨q,v1,e,r1⟩|q
   ·exact .inl q
   ·exact .inr (.inl ⟨q,v1,v2,e,r1.kept hs hk m,r2.kept hs hk m⟩)
   ·exact .inr (.inr (.inl ⟨q,v1,e,r1.kept hs hk m⟩))
   ·exact .inr (.inr (.inr q))
theorem RepN.below{L:Nat->SV}{w w':World}{S:Nat->Prop}{m:Nat}{v:Value}{i te:Nat}(h:RepN L m w S v i te)(hb:Below w.heap.size w w'):RepN L m w' S v i te:=
 h.kept (fun _ h=>h) (fun b _ hl=>hb.block b hl)
theorem meth_single(k:Nat)(x:Array Value)(w:World):(method (k+1) 120 (.agg x) "loop.example/s01319/impl.flatSize").run Tryz.prog w=.ok (138,.agg x) w:=by kernel_rfl
theorem meth_choice(k:Nat)(x:Array Value)(w:World):(method (k+1) 123 (.agg x) "loop.example/s01319/impl.flatSize").run Tryz.prog w=.ok (139,.agg x) w:=by kernel_rfl
theorem meth_loop(k:Nat)(x:Array Value)(w:World):(method (k+1) 126 (.agg x) "loop.example/s01319/impl.flatSize").run Tryz.prog w=.ok (140,.agg x) w:=by kernel_rfl
theorem meth_call(k:Nat)(x:Array Value)(w:World):(method (k+1) 128 (.agg x) "loop.example/s01319/impl.flatSize").run Tryz.prog w=.ok (141,.agg x) w:=by kernel_rfl
theorem flatSingle_any(a0 a1 a2 a3 a4 a5 a6:Value)(zv:Value)(w:World):
 Calls Tryz.prog 138 #[.agg #[a0,a1,a2,a3,a4,a5,a6],zv] w fun e w'=>e=.returned (.int .i64 1)/\Below w.heap.size w w':=by
 go_enter Tryz.func138,Tryz.ntmps138;go_wp2;go_ret;exact⟨rfl,(Below.refl _ _).alloc (Nat.le_refl _) _⟩
theorem flatCall_any(q bz nz cz:Nat)(Z:Nat->Int)(w:World)(hZ:At w bz 0 nz (zF Z))(hq:q<nz):
 Calls Tryz.prog 141 #[.agg #[.int .i64 (q:Int)],.slice (some ⟨bz,0,none⟩) nz cz] w fun e w'=>e=.returned (.int .i64 (Z q))/\Below w.heap.size w w':=by
 have g0:w.cell? ⟨bz,q,none⟩=some (.int .i64 (Z q)):=by have:=hZ.cell hq;rwa [Nat.zero_add]at this
 have hl:=hZ.lt;have hq':(q:Int)<(nz:Int):=by omega
 clear hZ;go_enter Tryz.func141,Tryz.ntmps141;go_wp2;go_ret;exact⟨rfl,(Below.refl _ _).alloc (Nat.le_refl _) _⟩
theorem chk_next{L:Nat->SV}{me procs deep depth:Int}{i te:Nat}(h0:(chk L me procs deep i te depth).1=0)(hlt:i<te):stOK (L i) procs=true/\i+1+(L i).thn.toNat+(L i).els.toNat<=te/\(chk L me procs deep (i+1) (i+1+(L i).thn.toNat) (depth+1)).1=0/\(chk L me procs deep (i+1+(L i).thn.toNat) (i+1+(L i).thn.toNat+(L i).els.toNat) (depth+1)).1=0/\(chk L me procs deep (i+1+(L i).thn.toNat+(L i).els.toNat) te depth).1=0:=by
 by_cases h1:stOK (L i) procs=false
 ·rw[chk_bad hlt h1]at h0;exact absurd h0 (by simp)
 by_cases h2:i+1+(L i).thn.toNat+(L i).els.toNat<=te
 rotate_left
 ·rw[chk_shape hlt h1 h2]at h0;exact absurd h0 (by simp)
 by_cases h3:((L i).k=2∨(L i).k=3)/\deep<=depth
 ·rw[chk_deep hlt h1 h2 h3]at h0;exact absurd h0 (by simp)
 by_cases h4:(L i).k=4/\(L i).proc<=me
 ·rw[chk_rec hlt h1 h2 h3 h4]at h0;exact absurd h0 (by simp)
 rw[chk_then hlt h1 h2 h3 h4]at h0;by_cases z1:(chk L me procs deep (i+1) (i+1+(L i).thn.toNat) (depth+1)).1≠0
 ·rw[if_pos z1]at h0;exact absurd h0 z1
 rw[if_neg z1]at h0;by_cases z2:(chk L me procs deep (i+1+(L i).thn.toNat) (i+1+(L i).thn.toNat+(L i).els.toNat) (depth+1)).1≠0
 ·rw[if_pos z2]at h0;exact absurd h0 z2
 rw[if_neg z2]at h0;exact⟨by simpa using h1,h2,by simpa using z1,by simpa using z2,h0⟩
theorem tops_len(L:Nat->SV):∀(m i te:Nat),te-i<=m->(tops L i te).length<=te-i:=by
 intro m;induction m using Nat.strongRecOn with
 |ind m ih=>
 intro i te hm;by_cases h:i<te
 ·rw[tops_more h]
  have:=ih (te-(i+1+(L i).thn.toNat+(L i).els.toNat)) (by omega) (i+1+(L i).thn.toNat+(L i).els.toNat) te (Nat.le_refl _);simp only[List.length_cons];omega
 ·rw[tops_end h];simp
theorem st_plain{s:SV}{procs:Int}(h:stOK s procs=true):((s.k=1∨s.k=4)->s.thn=0/\s.els=0)/\(s.k=3->s.els=0):=by
 unfold stOK at h;split at h
 ·simp at h;omega
 ·split at h
  ·simp at h;omega
  ·split at h
   ·simp at h;omega
   ·split at h
    ·simp at h;omega
    ·cases h
theorem flatNil_any(ao:Option Addr)(cap:Nat)(zv:Value)(w:World):
 Calls Tryz.prog 74 #[.slice ao 0 cap,zv] w fun e w'=>e=.returned (.int .i64 0)/\w'=w:=by
 go_enter Tryz.func74,Tryz.ntmps74;go_wp2;go_loopw [5,10](fun tv iv wr=>iv=.int .i64 0/\tv=.int .i64 0/\wr=w)(fun _ _ _=>0)
 case atStart=>exact⟨rfl,rfl,rfl⟩
 case round=>
  obtain⟨rfl,rfl,rfl⟩:=hrel;go_wp2;go_ret;exact⟨rfl,rfl⟩
theorem flatChoice_any(a0 a1 v1 v2 zv:Value)(s1 s2:Int)(w:World)(b1:0<=s1)(b2:s1<=1099511627776)(b3:0<=s2)(b4:s2<=1099511627776)
 (h1:∀w',Below w.heap.size w w'->Calls Tryz.prog 74 #[v1,zv] w' fun e v=>e=.returned (.int .i64 s1)/\Below w'.heap.size w' v)
 (h2:∀w',Below w.heap.size w w'->Calls Tryz.prog 74 #[v2,zv] w' fun e v=>e=.returned (.int .i64 s2)/\Below w'.heap.size w' v):
 Calls Tryz.prog 139 #[.agg #[a0,a1,v1,v2],zv] w fun e w'=>e=.returned (.int .i64 (2+s1+s2))/\Below w.heap.size w w':=by
 have H1:Hid _:=h1
 have H2:Hid _:=h2
 clear h1 h2
 go_enter Tryz.func139,Tryz.ntmps139
 go_upto_region 1 with fail
 obtain⟨u,hu,hb,hc⟩:∃x,w.alloc (.cells #[a0,a1,v1,v2] 123)=x/\Below w.heap.size w x/\Cl x w.heap.size [a0,a1,v1,v2]:=⟨_,rfl,(Below.refl _ _).alloc (Nat.le_refl _) _,Cl.new⟩
 rw[hu]
 have B0:Hid (Below w.heap.size w u):=hb
 have C0:Hid (Cl u w.heap.size [a0,a1,v1,v2]):=hc
 clear hu hb hc
 have r2:∀w',Below u.heap.size u w'->w'.cell? ⟨w.heap.size,2,none⟩=some v1:=fun w' h=>(C0.out.below h).2 2 (by simp)
 have r3:∀w',Below u.heap.size u w'->w'.cell? ⟨w.heap.size,3,none⟩=some v2:=fun w' h=>(C0.out.below h).2 3 (by simp)
 refine wp_region_held_drew (S:=fun w'=>Below u.heap.size u w') (by kernel_rfl) (Below.refl _ _).drew (fun hd0=>?_)
 generalize u.drew=t0 at hd0⊢
 refine wpAnyH_tk 0 ?k1v rfl ?k1y ?k1r
 case k1y=>(intro w hSw;(try dsimp only at hSw);go_simp;try with_reducible rfl)
 try simp only[Act.put,List.getElem_toArray,List.getElem_cons_zero,List.setIfInBounds_toArray,List.set_cons_zero,List.set_cons_succ]
 refine wpAnyH_tk 1 ?k2v rfl ?k2y ?k2r
 case k2y=>(intro w hSw;(try dsimp only at hSw);go_simp;try with_reducible rfl)
 try simp only[Act.put,List.getElem_toArray,List.getElem_cons_zero,List.getElem_cons_succ,List.setIfInBounds_toArray,List.set_cons_zero,List.set_cons_succ]
 refine wpAnyH_tk 2 ?k3v rfl ?k3y ?k3r
 case k3y=>(intro w hSw;(try dsimp only at hSw);go_simp;try with_reducible rfl)
 try simp only[Act.put,List.getElem_toArray,List.getElem_cons_zero,List.getElem_cons_succ,List.setIfInBounds_toArray,List.set_cons_zero,List.set_cons_succ]
 refine wpAnyH_tk 5 ?k4v rfl ?k4y ?k4r
 case k4y=>(intro w hSw;(try dsimp only at hSw);go_simp;try with_reducible rfl)
 try simp only[Act.put,List.getElem_toArray,List.getElem_cons_zero,List.getElem_cons_succ,List.setIfInBounds_toArray,List.set_cons_zero,List.set_cons_succ]
 refine wpAnyH_tk 6 ?k5v rfl ?k5y ?k5r
 case k5y=>(intro w hSw;(try dsimp only at hSw);go_simp;try with_reducible rfl)
 try simp only[Act.put,List.getElem_toArray,List.getElem_cons_zero,List.getElem_cons_succ,List.setIfInBounds_toArray,List.set_cons_zero,List.set_cons_succ]
 refine wpAnyH_tk 7 ?k6v rfl ?k6y ?k6r
 case k6y=>(intro w hSw;(try dsimp only at hSw);go_simp;try with_reducible rfl)
 try simp only[Act.put,List.getElem_toArray,List.getElem_cons_zero,List.getElem_cons_succ,List.setIfInBounds_toArray,List.set_cons_zero,List.set_cons_succ]
 refine wpAnyH_ready (rs:=[3]) (by kernel_rfl) (by simp) ?_
 refine AllReadyH.cons rfl (fun KK hK=>?_) AllReadyH.nil
 go_simp
 refine(H1.out _ (B0.out.trans (hd0.mono B0.out.size))).mono ?_
 rintro e t1⟨rfl,hb⟩
 have hd1:Below u.heap.size u t1:=hd0.trans (hb.mono hd0.size)
 clear hb
 go_wp2_with fail
 refine hK.out _ _ hd1 (fun hHeld=>?_)
 clear hK KK
 try simp only[Act.put,List.getElem_toArray,List.getElem_cons_zero,List.getElem_cons_succ,List.setIfInBounds_toArray,List.set_cons_zero,List.set_cons_succ]
 have f1:IntKind.i64.wrap (2+s1)=2+s1:=by rw[IntKind.wrap_i64];omega
 have f2:IntKind.i64.wrap (2+s1+s2)=2+s1+s2:=by rw[IntKind.wrap_i64];omega
 refine wpAnyH_tk 4 ?k7v rfl ?k7y ?k7r
 case k7y=>(intro w hSw;(try dsimp only at hSw);go_simp;try with_reducible rfl)
 try simp only[Act.put,List.getElem_toArray,List.getElem_cons_zero,List.getElem_cons_succ,List.setIfInBounds_toArray,List.set_cons_zero,List.set_cons_succ]
 refine wpAnyH_ready (rs:=[8]) (by kernel_rfl) (by simp) ?_
 refine AllReadyH.cons rfl (fun KK hK=>?_) AllReadyH.nil
 go_simp
 refine(H2.out _ (B0.out.trans (hd1.mono B0.out.size))).mono ?_
 rintro e t2⟨rfl,hb⟩
 have hd2:Below u.heap.size u t2:=hd1.trans (hb.mono hd1.size)
 clear hb
 go_wp2_with fail
 refine hK.out _ _ hd2 (fun hHeld2=>?_)
 clear hK KK
 try simp only[Act.put,List.getElem_toArray,List.getElem_cons_zero,List.getElem_cons_succ,List.setIfInBounds_toArray,List.set_cons_zero,List.set_cons_succ]
 refine wpAnyH_tk 9 ?k8v rfl ?k8y ?k8r
 case k8y=>(intro w hSw;(try dsimp only at hSw);go_simp;try with_reducible rfl)
 try simp only[Act.put,List.getElem_toArray,List.getElem_cons_zero,List.getElem_cons_succ,List.setIfInBounds_toArray,List.set_cons_zero,List.set_cons_succ]
 refine wpAnyH_tk 10 ?k9v rfl ?k9y ?k9r
 case k9y=>(intro w hSw;(try dsimp only at hSw);go_simp;try with_reducible rfl)
 try simp only[Act.put,List.getElem_toArray,List.getElem_cons_zero,List.getElem_cons_succ,List.setIfInBounds_toArray,List.set_cons_zero,List.set_cons_succ]
 refine wpAnyH_done (by kernel_rfl) ?_ _
 have B9:Hid (Below w.heap.size w t2):=B0.out.trans (hd2.mono B0.out.size)
 clear r2 r3 hd0 hd1 hd2 hHeld hHeld2
 go_wp2
 go_ret
 exact⟨rfl,B9.out⟩
theorem flatLoop_any(a0 a1 v1 zv:Value)(s1:Int)(w:World)(b1:0<=s1)(b2:s1<=1099511627776)
 (h1:∀w',Below w.heap.size w w'->Calls Tryz.prog 74 #[v1,zv] w' fun e v=>e=.returned (.int .i64 s1)/\Below w'.heap.size w' v):
 Calls Tryz.prog 140 #[.agg #[a0,a1,v1],zv] w fun e w'=>e=.returned (.int .i64 (2+s1))/\Below w.heap.size w w':=by
 have H1:Hid _:=h1;clear h1;go_enter Tryz.func140,Tryz.ntmps140;go_wp2_with fail;have b0:Below w.heap.size w (w.alloc (.cells #[a0,a1,v1] 126)):=(Below.refl _ _).alloc (Nat.le_refl _) _;refine(H1.out _ b0).mono ?_;rintro e t1⟨rfl,hb⟩;have B9:Hid (Below w.heap.size w t1):=b0.trans (hb.mono b0.size);clear hb b0;go_wp2;go_ret;exact⟨rfl,B9.out⟩
theorem flatBlock_any(L:Nat->SV)(bz nz cz:Nat)(Z:Nat->Int)(w0:World)(z0:∀i,0<=Z i)(z1:∀i,Z i<=2001)(hZ:At w0 bz 0 nz (zF Z))(me deep:Int):∀(m i te:Nat)(depth:Int)(v:Value)(S:Nat->Prop)(w:World),Below w0.heap.size w0 w->RepN L m w S v i te->i<=te->te<=2000->(chk L me (nz:Int) deep i te depth).1=0->
 Calls Tryz.prog 74 #[v,.slice (some ⟨bz,0,none⟩) nz cz] w fun e w'=>e=.returned (.int .i64 (szTo L Z te-szTo L Z i))/\Below w.heap.size w w':=by
 have zle:∀k:Nat,szTo L Z k<=2001*(k:Int):=fun k=>by
  induction k with
  |zero=>simp[szTo]
  |succ k ih=>
   have:=wI_le (s:=L k) z1;show szTo L Z k+wI (L k) Z<=_;omega
 have ZLE:Hid (∀k:Nat,szTo L Z k<=2001*(k:Int)):=zle;have Z0:Hid (∀i,0<=Z i):=z0;have HZ:Hid (At w0 bz 0 nz (zF Z)):=hZ;clear zle z0 z1 hZ;intro m;induction m with
 |zero=>
  intro i te depth v S w _ hr hit _ _;obtain⟨h1,rfl⟩:=hr;obtain rfl:i=te:=by omega
  refine(flatNil_any none 0 _ w).mono ?_;rintro e w'⟨rfl,rfl⟩;exact⟨ret_int (by omega),Below.refl _ _⟩
 |succ m ih=>
  intro i te depth v S w hw0 hr hit h2k hck;obtain⟨xs,hrow,hxl,hx⟩:=hr;by_cases hit2:i=te
  ·subst hit2
   have hl0:xs.length=0:=by rw[hxl,tops_end (by omega)];rfl
   have hv:∃ao cap,v=.slice ao 0 cap:=by
    rcases hrow.1.2 with⟨e,_⟩|⟨g,cap,cur,e,_⟩
    ·exact⟨_,_,e⟩
    ·rw[hl0]at e;exact⟨_,_,e⟩
   obtain⟨ao,cap,rfl⟩:=hv;refine(flatNil_any ao cap _ w).mono ?_;rintro e w'⟨rfl,rfl⟩;exact⟨ret_int (by omega),Below.refl _ _⟩
  have hlx:0<xs.length:=by rw[hxl,tops_more (by omega)];simp
  have hl2k:xs.length<=2000:=by rw[hxl];exact Nat.le_trans (tops_len L _ i te (Nat.le_refl _)) (by omega)
  obtain⟨g,cv,hv⟩:=row_some2 hrow.1 hlx;subst hv;have lgw:g<w.heap.size:=(hrow.1.lt g rfl).2;have HW0:Hid (Below w0.heap.size w0 w):=hw0;have HROW:Hid (RowS w S (.slice (some ⟨g,0,none⟩) xs.length cv) xs):=hrow;have HXL:Hid (xs.length=(tops L i te).length):=hxl;have HX:Hid _:=hx;have HCK:Hid ((chk L me (nz:Int) deep i te depth).1=0):=hck;have IH:Hid _:=ih;clear hw0 hrow hxl hx hck ih;obtain⟨res,hres⟩:∃x,szTo L Z te-szTo L Z i=x:=⟨_,rfl⟩
  rw[hres];have HRES:Hid (szTo L Z te-szTo L Z i=res):=hres;clear hres;obtain⟨nx,hnx⟩:∃y,xs.length=y:=⟨_,rfl⟩
  have HNX:Hid (xs.length=nx):=hnx;rw[hnx]at hlx hl2k⊢;clear hnx;go_enter Tryz.func74,Tryz.ntmps74;go_wp2;go_loopw [5,10](fun tv iv wr=>∃(q p:Nat),q<=nx/\i<=p/\p<=te/\iv=.int .i64 (q:Int)/\tv=.int .i64 (szTo L Z p-szTo L Z i)/\Below w.heap.size w wr/\(tops L i te).drop q=tops L p te/\(chk L me (nz:Int) deep p te depth).1=0)(fun _ iv _=>nx-(intOf iv).toNat)
  case atStart=>exact⟨0,i,Nat.zero_le _,Nat.le_refl _,hit,rfl,by simp,Below.refl _ _,by simp,HCK.out⟩
  case round=>
   obtain⟨q,p,hq,hip,hpt,rfl,rfl,hbr,hdr,hcp⟩:=hrel;have BR:Hid (Below w.heap.size w wr):=hbr;have HDR:Hid ((tops L i te).drop q=tops L p te):=hdr;have HCP:Hid ((chk L me (nz:Int) deep p te depth).1=0):=hcp;clear hbr hdr hcp;have t0:=szTo_mono (L:=L) Z0.out hip;have t1:=ZLE.out p;have t2:=szTo_pos (L:=L) Z0.out i;by_cases hlt:p<te
   rotate_left
   ·obtain rfl:p=te:=by omega
    have hqn:q=nx:=by
     have h:=congrArg List.length HDR.out;rw[List.length_drop,<-HXL.out,HNX.out,tops_end (i:=p) (te:=p) (by omega)]at h;simp at h;omega
    have hqx':¬(q:Int)<(nx:Int):=by omega
    clear t0 t1 t2;go_wp2;go_ret;exact⟨ret_int (by rw[<-HRES.out]),BR.out⟩
   have hqx:q<nx:=by
    have h:=congrArg List.length HDR.out;rw[List.length_drop,<-HXL.out,HNX.out,tops_more hlt]at h;simp at h;omega
   have hqx':(q:Int)<(nx:Int):=by omega
   obtain⟨x,hxq⟩:∃x,xs[q]?=some x:=⟨xs[q]'(by rw[HNX.out];exact hqx),by simp[HNX.out,hqx]⟩
   have hpq:(tops L i te)[q]?=some p:=by
    have h:=congrArg (fun l=>l[0]?) HDR.out;simp only[tops_more hlt,List.getElem?_drop,Nat.add_zero,List.getElem?_cons_zero]at h;exact h
   have hdn:(tops L i te).drop (q+1)=tops L (p+1+(L p).thn.toNat+(L p).els.toNat) te:=by
    have h:=congrArg (List.drop 1) HDR.out;rw[List.drop_drop,tops_more hlt]at h;simpa[Nat.add_comm]using h
   have g0:wr.cell? ⟨g,q,none⟩=some x:=by
    rw[BR.out.cell (p:=⟨g,q,none⟩) lgw,HROW.out.1.cellAt q (by rw[HNX.out];omega)];exact hxq
   obtain⟨sok,hnt,c1,c2,c3⟩:=chk_next HCP.out hlt;have HSOK:Hid (stOK (L p) (nz:Int)=true):=sok;have HC1:Hid _:=c1;have HC2:Hid _:=c2;have HC3:Hid _:=c3;have HDN:Hid _:=hdn;have HNT:Hid (p+1+(L p).thn.toNat+(L p).els.toNat<=te):=hnt;have HP1:Hid (szTo L Z (p+1)=szTo L Z p+wI (L p) Z):=rfl;have hcase:=HX.out q x p hxq hpq;clear sok c1 c2 c3 hdn hnt hxq hpq;have hthn:Hid ((L p).k=1∨(L p).k=4->(L p).thn.toNat=0/\(L p).els.toNat=0):=(fun h=>by have:=(st_plain HSOK.out).1 h;omega:(L p).k=1∨(L p).k=4->(L p).thn.toNat=0/\(L p).els.toNat=0)
   have hels:Hid ((L p).k=3->(L p).els.toNat=0):=(fun h=>by have:=(st_plain HSOK.out).2 h;omega:(L p).k=3->(L p).els.toNat=0)
   rcases hcase with⟨k1,rfl⟩|⟨k2,v1,v2,rfl,r1,r2⟩|⟨k3,v1,rfl,r1⟩|⟨k4,rfl⟩
   ·obtain⟨ea,eb⟩:=hthn.out (.inl k1)
    have HQ:Hid (szTo L Z (p+1+(L p).thn.toNat+(L p).els.toNat)=szTo L Z p+1):=(by rw[ea,eb];show szTo L Z p+wI (L p) Z=_;simp[wI,k1]:szTo L Z (p+1+(L p).thn.toNat+(L p).els.toNat)=szTo L Z p+1)
    have hm:=meth_single;clear k1 ea eb;go_wp2_with fail;refine(flatSingle_any _ _ _ _ _ _ _ _ _).mono ?_;rintro e u1⟨rfl,hb⟩;have B2:Hid (Below w.heap.size w u1):=BR.out.trans (hb.mono BR.out.size);clear hb hm g0;go_wp2;go_roundw
    case rel=>exact⟨q+1,p+1+(L p).thn.toNat+(L p).els.toNat,by omega,by omega,HNT.out,by go_num,by rw[HQ.out];congr 1;omega,B2.out,HDN.out,HC3.out⟩
    case measure=>simp[intOf];omega
   ·have HQ:Hid (szTo L Z (p+1)=szTo L Z p+2):=(by show szTo L Z p+wI (L p) Z=_;simp[wI,k2]:szTo L Z (p+1)=szTo L Z p+2)
    have hm:=meth_choice;have m1:=szTo_mono (L:=L) Z0.out (show p+1<=p+1+(L p).thn.toNat by omega);have m2:=szTo_mono (L:=L) Z0.out (show p+1+(L p).thn.toNat<=p+1+(L p).thn.toNat+(L p).els.toNat by omega);have m3:=ZLE.out (p+1+(L p).thn.toNat+(L p).els.toNat);have m4:=szTo_pos (L:=L) Z0.out (p+1);have hn:=HNT.out;obtain⟨s1,hs1⟩:∃y,szTo L Z (p+1+(L p).thn.toNat)-szTo L Z (p+1)=y:=⟨_,rfl⟩
    obtain⟨s2,hs2⟩:∃y,szTo L Z (p+1+(L p).thn.toNat+(L p).els.toNat)-szTo L Z (p+1+(L p).thn.toNat)=y:=⟨_,rfl⟩
    have HS1:Hid _:=hs1;have HS2:Hid _:=hs2;have y0:0<=s1:=by omega
    have y1:s1<=1099511627776:=by omega
    have y2:0<=s2:=by omega
    have y3:s2<=1099511627776:=by omega
    have y4:s1+s2<=4002000:=by omega
    have R1:Hid (RepN L m w S v1 (p+1) (p+1+(L p).thn.toNat)):=r1;have R2:Hid (RepN L m w S v2 (p+1+(L p).thn.toNat) (p+1+(L p).thn.toNat+(L p).els.toNat)):=r2;clear k2 r1 r2 m1 m2 m3 m4 hn hs1 hs2;go_wp2_with fail;refine(flatChoice_any _ _ v1 v2 _ s1 s2 _ y0 y1 y2 y3 (fun w' hb'=>?h1) (fun w' hb'=>?h2)).mono ?_
    case h1=>
     have hbb:=BR.out.trans (hb'.mono BR.out.size);have hn:=HNT.out;have h:=IH.out (p+1) (p+1+(L p).thn.toNat) (depth+1) v1 S w' (HW0.out.trans (hbb.mono HW0.out.size)) (R1.out.below hbb) (by omega) (by omega) HC1.out;rw[HS1.out]at h;exact h
    case h2=>
     have hbb:=BR.out.trans (hb'.mono BR.out.size);have hn:=HNT.out;have h:=IH.out (p+1+(L p).thn.toNat) (p+1+(L p).thn.toNat+(L p).els.toNat) (depth+1) v2 S w' (HW0.out.trans (hbb.mono HW0.out.size)) (R2.out.below hbb) (by omega) (by omega) HC2.out;rw[HS2.out]at h;exact h
    rintro e u1⟨rfl,hb⟩;have B2:Hid (Below w.heap.size w u1):=BR.out.trans (hb.mono BR.out.size);clear hb hm g0;go_wp2;go_roundw
    case rel=>exact⟨q+1,p+1+(L p).thn.toNat+(L p).els.toNat,by omega,by omega,HNT.out,by go_num,by have q1:=HS1.out;have q2:=HS2.out;have q3:=HQ.out;congr 1;omega,B2.out,HDN.out,HC3.out⟩
    case measure=>simp[intOf];omega
   ·have ee:=hels.out k3
    have HQ:Hid (szTo L Z (p+1)=szTo L Z p+2):=(by show szTo L Z p+wI (L p) Z=_;simp[wI,k3]:szTo L Z (p+1)=szTo L Z p+2)
    have hm:=meth_loop;have m1:=szTo_mono (L:=L) Z0.out (show p+1<=p+1+(L p).thn.toNat by omega);have m3:=ZLE.out (p+1+(L p).thn.toNat);have m4:=szTo_pos (L:=L) Z0.out (p+1);have hn:=HNT.out;obtain⟨s1,hs1⟩:∃y,szTo L Z (p+1+(L p).thn.toNat)-szTo L Z (p+1)=y:=⟨_,rfl⟩
    have HS1:Hid _:=hs1;have HEE:Hid ((L p).els.toNat=0):=ee;have y0:0<=s1:=by omega
    have y1:s1<=4002000:=by omega
    have R1:Hid (RepN L m w S v1 (p+1) (p+1+(L p).thn.toNat)):=r1;clear k3 r1 m1 m3 m4 hn hs1 ee;go_wp2_with fail;refine(flatLoop_any _ _ v1 _ s1 _ y0 (by omega) (fun w' hb'=>?h1)).mono ?_
    case h1=>
     have hbb:=BR.out.trans (hb'.mono BR.out.size);have hn:=HNT.out;have h:=IH.out (p+1) (p+1+(L p).thn.toNat) (depth+1) v1 S w' (HW0.out.trans (hbb.mono HW0.out.size)) (R1.out.below hbb) (by omega) (by omega) HC1.out;rw[HS1.out]at h;exact h
    rintro e u1⟨rfl,hb⟩;have B2:Hid (Below w.heap.size w u1):=BR.out.trans (hb.mono BR.out.size);clear hb hm g0;go_wp2;go_roundw
    case rel=>exact⟨q+1,p+1+(L p).thn.toNat+(L p).els.toNat,by omega,by omega,HNT.out,by go_num,by have q1:=HS1.out;have q3:=HQ.out;rw[HEE.out];congr 1;simp only[Nat.add_zero];omega,B2.out,HDN.out,HC3.out⟩
    case measure=>simp[intOf];omega
   ·obtain⟨ea,eb⟩:=hthn.out (.inr k4)
    obtain⟨q0,q1⟩:=st_call HSOK.out k4;obtain⟨y,hy⟩:∃y:Nat,(L p).proc=(y:Int):=⟨(L p).proc.toNat,by omega⟩
    have HQ:Hid (szTo L Z (p+1+(L p).thn.toNat+(L p).els.toNat)=szTo L Z p+Z y):=(by rw[ea,eb];show szTo L Z p+wI (L p) Z=_;simp[wI,k4,hy]:szTo L Z (p+1+(L p).thn.toNat+(L p).els.toNat)=szTo L Z p+Z y)
    have hm:=meth_call;rw[hy]at g0;have hyn:y<nz:=by omega
    have m3:=ZLE.out (p+1+(L p).thn.toNat+(L p).els.toNat);rw[HQ.out]at m3;have hn:=HNT.out;have z0y:=Z0.out y;have z2y:szTo L Z p-szTo L Z i+Z y<=8004000:=by omega
    have HW1:Hid (Below w0.heap.size w0 wr):=HW0.out.trans (BR.out.mono HW0.out.size);clear k4 ea eb q0 q1 hy m3 hn;go_wp2_with fail;refine(flatCall_any y bz nz cz Z _ (HZ.out.below HW1.out HZ.out.lt) hyn).mono ?_;rintro e u1⟨rfl,hb⟩;have B2:Hid (Below w.heap.size w u1):=BR.out.trans (hb.mono BR.out.size);clear hb hm g0;go_wp2;go_roundw
    case rel=>exact⟨q+1,p+1+(L p).thn.toNat+(L p).els.toNat,by omega,by omega,HNT.out,by go_num,by rw[HQ.out];congr 1;omega,B2.out,HDN.out,HC3.out⟩
    case measure=>simp[intOf];omega
def wrongI(s:SV)(own procs dmax room depth:Int):Int:=
 if stOK s procs=false then 2 else if room<s.thn∨room-s.thn<s.els then 3 else if(s.k=2∨s.k=3)/\dmax<depth then 4 else if s.k=4/\s.proc<=own then 5 else 0
theorem below_drewU{B:Nat}{w w':World}(h:Below B w w')(n:Nat):Below B w (w'.drewN n):=h.trans ⟨rfl,rfl,rfl,Nat.le_refl _,fun _ _=>rfl⟩
theorem wrong_any(t:Nat)(lst:Value)(own procs dmax err pos:Int)(s:SV)(room depth:Int)(w:World)(hT:Cl w t [lst,.int .i64 own,.int .i64 procs,.int .i64 dmax,.int .i64 err,.int .i64 pos])(r0:0<=room)(r1:room<=1048576):
 Calls Tryz.prog 72 #[.pointer (some ⟨t,0,none⟩),.agg #[.int .i64 s.k,.int .i64 s.op,.int .i64 s.d,.int .i64 s.a,.int .i64 s.b,.int .i64 s.imm,.int .i64 s.h,.int .i64 s.cond,.int .i64 s.thn,.int .i64 s.els,.int .i64 s.proc],.int .i64 room,.int .i64 depth] w fun e w'=>e=.returned (.int .i64 (wrongI s own procs dmax room depth))/\Below w.heap.size w w':=by
 obtain⟨res,hres⟩:∃x,wrongI s own procs dmax room depth=x:=⟨_,rfl⟩
 rw[hres]
 have HR:Hid (wrongI s own procs dmax room depth=res):=hres
 have HT:Hid (Cl w t [lst,.int .i64 own,.int .i64 procs,.int .i64 dmax,.int .i64 err,.int .i64 pos]):=hT
 have lt:=hT.1
 clear hres hT
 go_enter Tryz.func72,Tryz.ntmps72
 go_upto_region 1 with fail
 obtain⟨u,hu,hb,hc⟩:∃x,w.alloc (.cells #[.int .i64 s.k,.int .i64 s.op,.int .i64 s.d,.int .i64 s.a,.int .i64 s.b,.int .i64 s.imm,.int .i64 s.h,.int .i64 s.cond,.int .i64 s.thn,.int .i64 s.els,.int .i64 s.proc] 99)=x/\Below w.heap.size w x/\Cl x w.heap.size [.int .i64 s.k,.int .i64 s.op,.int .i64 s.d,.int .i64 s.a,.int .i64 s.b,.int .i64 s.imm,.int .i64 s.h,.int .i64 s.cond,.int .i64 s.thn,.int .i64 s.els,.int .i64 s.proc]:=⟨_,rfl,(Below.refl _ _).alloc (Nat.le_refl _) _,Cl.new⟩
 rw[hu]
 have B0:Hid (Below w.heap.size w u):=hb
 have C0:Hid (Cl u w.heap.size [.int .i64 s.k,.int .i64 s.op,.int .i64 s.d,.int .i64 s.a,.int .i64 s.b,.int .i64 s.imm,.int .i64 s.h,.int .i64 s.cond,.int .i64 s.thn,.int .i64 s.els,.int .i64 s.proc]):=hc
 have T0:Hid (Cl u t [lst,.int .i64 own,.int .i64 procs,.int .i64 dmax,.int .i64 err,.int .i64 pos]):=HT.out.below hb
 clear hu hb hc HT
 have lu:=C0.out.1
 have r0:∀w',Below u.heap.size u w'->w'.cell? ⟨w.heap.size,0,none⟩=some (.int .i64 s.k):=fun w' h=>(C0.out.below h).2 0 (by simp)
 have r1:∀w',Below u.heap.size u w'->w'.cell? ⟨w.heap.size,1,none⟩=some (.int .i64 s.op):=fun w' h=>(C0.out.below h).2 1 (by simp)
 have r2:∀w',Below u.heap.size u w'->w'.cell? ⟨w.heap.size,2,none⟩=some (.int .i64 s.d):=fun w' h=>(C0.out.below h).2 2 (by simp)
 have r3:∀w',Below u.heap.size u w'->w'.cell? ⟨w.heap.size,3,none⟩=some (.int .i64 s.a):=fun w' h=>(C0.out.below h).2 3 (by simp)
 have r4:∀w',Below u.heap.size u w'->w'.cell? ⟨w.heap.size,4,none⟩=some (.int .i64 s.b):=fun w' h=>(C0.out.below h).2 4 (by simp)
 have r5:∀w',Below u.heap.size u w'->w'.cell? ⟨w.heap.size,5,none⟩=some (.int .i64 s.imm):=fun w' h=>(C0.out.below h).2 5 (by simp)
 have r6:∀w',Below u.heap.size u w'->w'.cell? ⟨w.heap.size,6,none⟩=some (.int .i64 s.h):=fun w' h=>(C0.out.below h).2 6 (by simp)
 have r7:∀w',Below u.heap.size u w'->w'.cell? ⟨w.heap.size,7,none⟩=some (.int .i64 s.cond):=fun w' h=>(C0.out.below h).2 7 (by simp)
 have r8:∀w',Below u.heap.size u w'->w'.cell? ⟨w.heap.size,8,none⟩=some (.int .i64 s.thn):=fun w' h=>(C0.out.below h).2 8 (by simp)
 have r9:∀w',Below u.heap.size u w'->w'.cell? ⟨w.heap.size,9,none⟩=some (.int .i64 s.els):=fun w' h=>(C0.out.below h).2 9 (by simp)
 have r10:∀w',Below u.heap.size u w'->w'.cell? ⟨w.heap.size,10,none⟩=some (.int .i64 s.proc):=fun w' h=>(C0.out.below h).2 10 (by simp)
 have q2:∀w',Below u.heap.size u w'->w'.cell? ⟨t,2,none⟩=some (.int .i64 procs):=fun w' h=>(T0.out.below h).2 2 (by simp)
 refine wp_region_held_drew (S:=fun w'=>Below u.heap.size u w') (by kernel_rfl) (Below.refl _ _).drew (fun hd0=>?_)
 generalize u.drew=v0 at hd0⊢
 refine wpAnyH_tk 0 ?k1v rfl ?k1y ?k1r
 case k1y=>(intro w hSw;(try dsimp only at hSw);go_simp;try with_reducible rfl)
 try simp only[Act.put,List.getElem_toArray,List.getElem_cons_zero,List.setIfInBounds_toArray,List.set_cons_zero,List.set_cons_succ]
 refine wpAnyH_tk 1 ?k2v rfl ?k2y ?k2r
 case k2y=>(intro w hSw;(try dsimp only at hSw);go_simp;try with_reducible rfl)
 try simp only[Act.put,List.getElem_toArray,List.getElem_cons_zero,List.getElem_cons_succ,List.setIfInBounds_toArray,List.set_cons_zero,List.set_cons_succ]
 refine wpAnyH_tk 2 ?k3v rfl ?k3y ?k3r
 case k3y=>(intro w hSw;(try dsimp only at hSw);go_simp;try with_reducible rfl)
 try simp only[Act.put,List.getElem_toArray,List.getElem_cons_zero,List.getElem_cons_succ,List.setIfInBounds_toArray,List.set_cons_zero,List.set_cons_succ]
 refine wpAnyH_tk 3 ?k4v rfl ?k4y ?k4r
 case k4y=>(intro w hSw;(try dsimp only at hSw);go_simp;try with_reducible rfl)
 try simp only[Act.put,List.getElem_toArray,List.getElem_cons_zero,List.getElem_cons_succ,List.setIfInBounds_toArray,List.set_cons_zero,List.set_cons_succ]
 refine wpAnyH_tk 4 ?k5v rfl ?k5y ?k5r
 case k5y=>(intro w hSw;(try dsimp only at hSw);go_simp;try with_reducible rfl)
 try simp only[Act.put,List.getElem_toArray,List.getElem_cons_zero,List.getElem_cons_succ,List.setIfInBounds_toArray,List.set_cons_zero,List.set_cons_succ]
 refine wpAnyH_ready (rs:=[5]) (by kernel_rfl) (by simp) ?_
 refine AllReadyH.cons rfl (fun KK hK=>?_) AllReadyH.nil
 go_simp
 refine(validStmt_any s procs _).mono ?_
 rintro e u1⟨rfl,hb⟩
 have hd1:Below u.heap.size u u1:=hd0.trans (hb.mono hd0.size)
 clear hb
 obtain⟨ok,hok⟩:∃x,stOK s procs=x:=⟨_,rfl⟩
 rw[hok]
 have HOK:Hid (stOK s procs=ok):=hok
 clear hok
 go_wp2_with fail
 refine hK.out _ _ hd1 (fun hHeld=>?_)
 clear hK KK
 try simp only[Act.put,List.getElem_toArray,List.getElem_cons_zero,List.getElem_cons_succ,List.setIfInBounds_toArray,List.set_cons_zero,List.set_cons_succ]
 refine wpAnyH_tk 6 ?k6v rfl ?k6y ?k6r
 case k6y=>(intro w hSw;(try dsimp only at hSw);go_simp;try with_reducible rfl)
 try simp only[Act.put,List.getElem_toArray,List.getElem_cons_zero,List.getElem_cons_succ,List.setIfInBounds_toArray,List.set_cons_zero,List.set_cons_succ]
 refine wpAnyH_tk 7 ?k7v rfl ?k7y ?k7r
 case k7y=>(intro w hSw;(try dsimp only at hSw);go_simp;try with_reducible rfl)
 try simp only[Act.put,List.getElem_toArray,List.getElem_cons_zero,List.getElem_cons_succ,List.setIfInBounds_toArray,List.set_cons_zero,List.set_cons_succ]
 refine wpAnyH_done (by kernel_rfl) ?_ _
 clear r0 r1 r2 r3 r4 r5 r6 r7 r8 r9 r10 q2
 have B1:Hid (Below w.heap.size w u1):=B0.out.trans (hd1.mono B0.out.size)
 have C1:Hid (Cl u1 w.heap.size [.int .i64 s.k,.int .i64 s.op,.int .i64 s.d,.int .i64 s.a,.int .i64 s.b,.int .i64 s.imm,.int .i64 s.h,.int .i64 s.cond,.int .i64 s.thn,.int .i64 s.els,.int .i64 s.proc]):=C0.out.below hd1
 have T1:Hid (Cl u1 t [lst,.int .i64 own,.int .i64 procs,.int .i64 dmax,.int .i64 err,.int .i64 pos]):=T0.out.below hd1
 clear hd0 hd1 hHeld B0 C0 T0
 obtain⟨c0,c1,c2,c3,c4,c5,c6,c7,c8,c9,c10⟩:=st_cl C1.out
 have zc:=C1.out.1
 have zt:=T1.out.1
 have t1:u1.cell? ⟨t,1,none⟩=some (.int .i64 own):=T1.out.2 1 (by simp)
 have t3:u1.cell? ⟨t,3,none⟩=some (.int .i64 dmax):=T1.out.2 3 (by simp)
 cases ok with
 |false=>
  go_wp2
  go_ret
  exact⟨ret_int (by rw[<-HR.out,wrongI,if_pos HOK.out]),B1.out⟩
 |true=>
 obtain⟨tp,ep⟩:=st_pos HOK.out
 have H1:Hid (¬stOK s procs=false):=(by rw[HOK.out];decide:¬stOK s procs=false)
 by_cases h1:room<s.thn
 ·have e1:decide (room<s.thn)=true:=by simp[h1]
  go_wp2
  go_ret
  exact⟨ret_int (by rw[<-HR.out,wrongI,if_neg H1.out,if_pos (Or.inl h1)]),B1.out⟩
 have e1:decide (room<s.thn)=false:=by simp;omega
 by_cases h2:room-s.thn<s.els
 ·have e2:decide (room-s.thn<s.els)=true:=by simp[h2]
  go_wp2
  go_ret
  exact⟨ret_int (by rw[<-HR.out,wrongI,if_neg H1.out,if_pos (Or.inr h2)]),B1.out⟩
 have e2:decide (room-s.thn<s.els)=false:=by simp;omega
 have H2:Hid (¬(room<s.thn∨room-s.thn<s.els)):=(by omega:¬(room<s.thn∨room-s.thn<s.els))
 have hle:s.thn<=room:=by omega
 clear h1 h2
 by_cases h3:(s.k=2∨s.k=3)/\dmax<depth
 ·have H3:Hid ((s.k=2∨s.k=3)/\dmax<depth):=h3
  have e4:decide (dmax<depth)=true:=by simp[h3.2]
  by_cases h2:s.k=2
  ·have e3:(s.k==2)=true:=by simp[h2]
   clear h3 h2
   go_wp2
   go_ret
   exact⟨ret_int (by rw[<-HR.out,wrongI,if_neg H1.out,if_neg H2.out,if_pos H3.out]),B1.out⟩
  ·have e3:(s.k==2)=false:=by simp[h2]
   have e5:(s.k==3)=true:=by rcases h3.1 with q|q<;>simp_all
   clear h3 h2
   go_wp2
   go_ret
   exact⟨ret_int (by rw[<-HR.out,wrongI,if_neg H1.out,if_neg H2.out,if_pos H3.out]),B1.out⟩
 have H3:Hid (¬((s.k=2∨s.k=3)/\dmax<depth)):=h3
 clear h3
 go_upto_region 5 with fail
 go_cut [31](fun s31 wx=>s31=.bool false/\wx=u1)
 case first=>
  by_cases h2:s.k=2
  ·have e3:(s.k==2)=true:=by simp[h2]
   have e4:decide (dmax<depth)=false:=by have:=H3.out;simp;omega
   clear h2
   go_wp2_with fail
   go_meet
   exact⟨rfl,rfl⟩
  ·have e3:(s.k==2)=false:=by simp[h2]
   by_cases h5:s.k=3
   ·have e5:(s.k==3)=true:=by simp[h5]
    have e4:decide (dmax<depth)=false:=by have:=H3.out;simp;omega
    clear h2 h5
    go_wp2_with fail
    go_meet
    exact⟨rfl,rfl⟩
   ·have e5:(s.k==3)=false:=by simp[h5]
    clear h2 h5
    go_wp2_with fail
    go_meet
    exact⟨rfl,rfl⟩
 case rest=>
  obtain⟨rfl,hw⟩:=hcut
  rw[hw]
  clear hw e1 e2
  go_upto_region 7 with fail
  by_cases k4:s.k=4
  ·have a4:(s.k==4)=true:=by simp[k4]
   have K4:Hid (s.k=4):=k4
   clear k4
   by_cases h5:s.proc<=own
   ·have e5:decide (s.proc<=own)=true:=by simp[h5]
    go_quiet(fail)
    go_wp2
    go_ret
    exact⟨ret_int (by rw[<-HR.out,wrongI,if_neg H1.out,if_neg H2.out,if_neg H3.out,if_pos ⟨K4.out,h5⟩]),below_drewU B1.out _⟩
   ·have e5:decide (s.proc<=own)=false:=by simp;omega
    have H5:Hid (¬s.proc<=own):=h5
    clear h5
    go_quiet(fail)
    go_wp2
    go_ret
    exact⟨ret_int (by rw[<-HR.out,wrongI,if_neg H1.out,if_neg H2.out,if_neg H3.out,if_neg (fun x=>by have:=H5.out;have:=x.2;omega)]),below_drewU B1.out _⟩
  ·have a4:(s.k==4)=false:=by simp[k4]
   have K4:Hid (¬s.k=4):=k4
   clear k4
   go_quiet(fail)
   go_wp2
   go_ret
   exact⟨ret_int (by rw[<-HR.out,wrongI,if_neg H1.out,if_neg H2.out,if_neg H3.out,if_neg (fun x=>K4.out x.1)]),below_drewU B1.out _⟩
end Go.Proofs.YtiphbmhoifggiaaGreatDoor
