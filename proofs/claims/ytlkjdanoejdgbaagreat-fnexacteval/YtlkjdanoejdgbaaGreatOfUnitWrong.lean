import Derived.Test.YtlkjdanoejdgbaaGreatOfUnitSpec
import Derived.Maps.AppendAt
import Derived.Test.YtlkjdanoejdgbaaGreatOfUnitBlock
import Derived.Deep.QuietTactic
import Derived.BigQuiet
set_option maxHeartbeats 8000000
set_option maxRecDepth 20000
namespace Go.Proofs.YtlkjdanoejdgbaaGreat
open Go.RowKit
def tops(L:Nat->SV)(i te:Nat):List Nat:=
 if _h:i<te then i::tops L (i+1+(L i).thn.toNat+(L i).els.toNat) te else[]
theorem tops_end{L:Nat->SV}{i te:Nat}(h:¬i<te):tops L i te=[]:=by rw[tops,dif_neg h]
theorem tops_more{L:Nat->SV}{i te:Nat}(h:i<te):tops L i te=i::tops L (i+1+(L i).thn.toNat+(L i).els.toNat) te:=by rw[tops,dif_pos h]
def RowS(w:World)(S:Nat->Prop)(v:Value)(xs:List Value):Prop:=w.ownsRow 0 120 1 v xs.length xs/\∀b,v.ownBlock=some b->S b
def RepN(L:Nat->SV):Nat->World->(Nat->Prop)->Value->Nat->Nat->Prop
 |0,_,_,v,i,te=>te<=i/\v=.slice none 0 0
 |m+1,w,S,v,i,te=>∃xs:List Value,RowS w S v xs/\xs.length=(tops L i te).length/\∀(k:Nat)(x:Value)(p:Nat),xs[k]?=some x->(tops L i te)[k]?=some p->
  ((L p).k=1/\x=.iface 147 (.agg #[.int .i64 (p:Int),.int .i64 (L p).op,.int .i64 (L p).d,.int .i64 (L p).a,.int .i64 (L p).b,.int .i64 (L p).imm,.int .i64 (L p).h]))∨
  ((L p).k=2/\∃v1 v2,x=.iface 150 (.agg #[.int .i64 (p:Int),.int .i64 (L p).cond,v1,v2])/\RepN L m w S v1 (p+1) (p+1+(L p).thn.toNat)/\RepN L m w S v2 (p+1+(L p).thn.toNat) (p+1+(L p).thn.toNat+(L p).els.toNat))∨
  ((L p).k=3/\∃v1,x=.iface 153 (.agg #[.int .i64 (p:Int),.int .i64 (L p).cond,v1])/\RepN L m w S v1 (p+1) (p+1+(L p).thn.toNat))∨
  ((L p).k=4/\x=.iface 156 (.agg #[.int .i64 (L p).proc]))
theorem RepN.kept{L:Nat->SV}{w w':World}{S S':Nat->Prop}(hs:∀b,S b->S' b)(hk:∀b,S b->b<w.heap.size->w'.heap[b]?=w.heap[b]?):∀(m:Nat){v:Value}{i te:Nat},RepN L m w S v i te->RepN L m w' S' v i te
 |0,_,_,_,h=>h
 |m+1,v,i,te,h=>by
  obtain⟨xs,⟨hr,hb⟩,hl,hx⟩:=h;refine⟨xs,⟨⟨hr.1,?_⟩,fun b h=>hs b (hb b h)⟩,hl,fun k x p h1 h2=>?_⟩
  ·rcases hr.2 with h|⟨g,cap,cur,rfl,h1,h2,h3⟩
   ·exact .inl h
   ·have hg:g<w.heap.size:=(Array.getElem?_eq_some_iff.1 h2).1
    exact .inr ⟨g,cap,cur,rfl,h1,(hk g (hb g rfl) hg).trans h2,h3⟩
  ·rcases hx k x p h1 h2 with q|⟨q,v1,v2,e,r1,r2⟩|⟨q,v1,e,r1⟩|q
   ·exact .inl q
   ·exact .inr (.inl ⟨q,v1,v2,e,r1.kept hs hk m,r2.kept hs hk m⟩)
   ·exact .inr (.inr (.inl ⟨q,v1,e,r1.kept hs hk m⟩))
   ·exact .inr (.inr (.inr q))
theorem RepN.below{L:Nat->SV}{w w':World}{S:Nat->Prop}{m:Nat}{v:Value}{i te:Nat}(h:RepN L m w S v i te)(hb:Below w.heap.size w w'):RepN L m w' S v i te:=
 h.kept (fun _ h=>h) (fun b _ hl=>hb.block b hl)
theorem meth_single(k:Nat)(x:Array Value)(w:World):(method (k+1) 147 (.agg x) "loop.example/s01319/impl.flatSize").run Tryz.prog w=.ok (161,.agg x) w:=by kernel_rfl
theorem meth_choice(k:Nat)(x:Array Value)(w:World):(method (k+1) 150 (.agg x) "loop.example/s01319/impl.flatSize").run Tryz.prog w=.ok (162,.agg x) w:=by kernel_rfl
theorem meth_loop(k:Nat)(x:Array Value)(w:World):(method (k+1) 153 (.agg x) "loop.example/s01319/impl.flatSize").run Tryz.prog w=.ok (163,.agg x) w:=by kernel_rfl
theorem flatSingle_any(a0 a1 a2 a3 a4 a5 a6:Value)(zv:Value)(w:World):
 Calls Tryz.prog 161 #[.agg #[a0,a1,a2,a3,a4,a5,a6],zv] w fun e w'=>e=.returned (.int .i64 1)/\Below w.heap.size w w':=by
 go_enter Tryz.func161,Tryz.ntmps161;go_wp2;go_ret;exact⟨rfl,(Below.refl _ _).alloc (Nat.le_refl _) _⟩
theorem chk_next{L:Nat->SV}{me procs deep depth:Int}{i te:Nat}(h0:(chk L me procs deep i te depth).1=0)(hlt:i<te):stOK (L i) procs=true/\i+1+(L i).thn.toNat+(L i).els.toNat<=te/\(chk L me procs deep (i+1) (i+1+(L i).thn.toNat) (depth+1)).1=0/\(chk L me procs deep (i+1+(L i).thn.toNat) (i+1+(L i).thn.toNat+(L i).els.toNat) (depth+1)).1=0/\(chk L me procs deep (i+1+(L i).thn.toNat+(L i).els.toNat) te depth).1=0:=by
 by_cases h1:stOK (L i) procs=false
 ·rw[chk_bad hlt h1]at h0;exact absurd h0 (by simp)
 by_cases h2:i+1+(L i).thn.toNat+(L i).els.toNat<=te
 rotate_left
 ·rw[chk_shape hlt h1 h2]at h0;exact absurd h0 (by simp)
 by_cases h3:((L i).k=2∨(L i).k=3)/\deep<=depth
 ·rw[chk_deep hlt h1 h2 h3]at h0;exact absurd h0 (by simp)
 by_cases h4:(L i).k=4/\(L i).proc<=me
 ·rw[chk_rec hlt h1 h2 h3 h4]at h0;exact absurd h0 (by simp)
 rw[chk_then hlt h1 h2 h3 h4]at h0;by_cases z1:(chk L me procs deep (i+1) (i+1+(L i).thn.toNat) (depth+1)).1≠0
 ·rw[if_pos z1]at h0;exact absurd h0 z1
 rw[if_neg z1]at h0;by_cases z2:(chk L me procs deep (i+1+(L i).thn.toNat) (i+1+(L i).thn.toNat+(L i).els.toNat) (depth+1)).1≠0
 ·rw[if_pos z2]at h0;exact absurd h0 z2
 rw[if_neg z2]at h0;exact⟨by simpa using h1,h2,by simpa using z1,by simpa using z2,h0⟩
theorem tops_len(L:Nat->SV):∀(m i te:Nat),te-i<=m->(tops L i te).length<=te-i:=by
 intro m;induction m using Nat.strongRecOn with
 |ind m ih=>
 intro i te hm;by_cases h:i<te
 ·rw[tops_more h]
  have:=ih (te-(i+1+(L i).thn.toNat+(L i).els.toNat)) (by omega) (i+1+(L i).thn.toNat+(L i).els.toNat) te (Nat.le_refl _);simp only[List.length_cons];omega
 ·rw[tops_end h];simp
theorem st_plain{s:SV}{procs:Int}(h:stOK s procs=true):((s.k=1∨s.k=4)->s.thn=0/\s.els=0)/\(s.k=3->s.els=0):=by
 unfold stOK at h;split at h
 ·simp at h;omega
 ·split at h
  ·simp at h;omega
  ·split at h
   ·simp at h;omega
   ·split at h
    ·simp at h;omega
    ·cases h
theorem flatNil_any(ao:Option Addr)(cap:Nat)(zv:Value)(w:World):
 Calls Tryz.prog 55 #[.slice ao 0 cap,zv] w fun e w'=>e=.returned (.int .i64 0)/\w'=w:=by
 go_enter Tryz.func55,Tryz.ntmps55;go_wp2;go_loopw [5,10](fun tv iv wr=>iv=.int .i64 0/\tv=.int .i64 0/\wr=w)(fun _ _ _=>0)
 case atStart=>exact⟨rfl,rfl,rfl⟩
 case round=>
  obtain⟨rfl,rfl,rfl⟩:=hrel;go_wp2;go_ret;exact⟨rfl,rfl⟩
theorem flatChoice_any(a0 a1 v1 v2 zv:Value)(s1 s2:Int)(w:World)(b1:0<=s1)(b2:s1<=1099511627776)(b3:0<=s2)(b4:s2<=1099511627776)
 (h1:∀w',Below w.heap.size w w'->Calls Tryz.prog 55 #[v1,zv] w' fun e v=>e=.returned (.int .i64 s1)/\Below w'.heap.size w' v)
 (h2:∀w',Below w.heap.size w w'->Calls Tryz.prog 55 #[v2,zv] w' fun e v=>e=.returned (.int .i64 s2)/\Below w'.heap.size w' v):
 Calls Tryz.prog 162 #[.agg #[a0,a1,v1,v2],zv] w fun e w'=>e=.returned (.int .i64 (2+s1+s2))/\Below w.heap.size w w':=by
 have H1:Hid _:=h1;have H2:Hid _:=h2;clear h1 h2;go_enter Tryz.func162,Tryz.ntmps162;go_upto_region 1 with fail;obtain⟨u,hu,hb,hc⟩:∃x,w.alloc (.cells #[a0,a1,v1,v2] 150)=x/\Below w.heap.size w x/\Cl x w.heap.size [a0,a1,v1,v2]:=⟨_,rfl,(Below.refl _ _).alloc (Nat.le_refl _) _,Cl.new⟩
 rw[hu];have B0:Hid (Below w.heap.size w u):=hb;have C0:Hid (Cl u w.heap.size [a0,a1,v1,v2]):=hc;clear hu hb hc;have r2:∀w',Below u.heap.size u w'->w'.cell? ⟨w.heap.size,2,none⟩=some v1:=fun w' h=>(C0.out.below h).2 2 (by simp)
 have r3:∀w',Below u.heap.size u w'->w'.cell? ⟨w.heap.size,3,none⟩=some v2:=fun w' h=>(C0.out.below h).2 3 (by simp)
 refine wp_region_held_drew (S:=fun w'=>Below u.heap.size u w') (by kernel_rfl) (Below.refl _ _).drew (fun hd0=>?_);generalize u.drew=t0 at hd0⊢;refine wpAnyH_ta 0 rfl ?_;refine wpAnyH_ta 1 rfl ?_;refine wpAnyH_ta 2 rfl ?_;refine wpAnyH_ta 5 rfl ?_;refine wpAnyH_ta 6 rfl ?_;refine wpAnyH_ta 7 rfl ?_;refine wpAnyH_ready (rs:=[3]) (by kernel_rfl) (by simp) ?_;refine AllReadyH.cons rfl (fun KK hK=>?_) AllReadyH.nil;go_simp;refine(H1.out _ (B0.out.trans (hd0.mono B0.out.size))).mono ?_;rintro e t1⟨rfl,hb⟩;have hd1:Below u.heap.size u t1:=hd0.trans (hb.mono hd0.size);clear hb
 go_wp2_with fail
 refine hK.out _ _ hd1 (fun hHeld=>?_)
 clear hK KK
 try simp only[Act.put,List.getElem_toArray,List.getElem_cons_zero,List.getElem_cons_succ,List.setIfInBounds_toArray,List.set_cons_zero,List.set_cons_succ]
 have f1:IntKind.i64.wrap (2+s1)=2+s1:=by rw[IntKind.wrap_i64];omega
 have f2:IntKind.i64.wrap (2+s1+s2)=2+s1+s2:=by rw[IntKind.wrap_i64];omega
 refine wpAnyH_ta 4 rfl ?_
 refine wpAnyH_ready (rs:=[8]) (by kernel_rfl) (by simp) ?_
 refine AllReadyH.cons rfl (fun KK hK=>?_) AllReadyH.nil
 go_simp
 refine(H2.out _ (B0.out.trans (hd1.mono B0.out.size))).mono ?_
 rintro e t2⟨rfl,hb⟩
 have hd2:Below u.heap.size u t2:=hd1.trans (hb.mono hd1.size)
 clear hb
 go_wp2_with fail
 refine hK.out _ _ hd2 (fun hHeld2=>?_)
 clear hK KK
 try simp only[Act.put,List.getElem_toArray,List.getElem_cons_zero,List.getElem_cons_succ,List.setIfInBounds_toArray,List.set_cons_zero,List.set_cons_succ]
 refine wpAnyH_ta 9 rfl ?_
 refine wpAnyH_ta 10 rfl ?_
 refine wpAnyH_done (by kernel_rfl) ?_ _
 have B9:Hid (Below w.heap.size w t2):=B0.out.trans (hd2.mono B0.out.size)
 clear r2 r3 hd0 hd1 hd2 hHeld hHeld2
 go_wp2
 go_ret
 exact⟨rfl,B9.out⟩
theorem flatLoop_any(a0 a1 v1 zv:Value)(s1:Int)(w:World)(b1:0<=s1)(b2:s1<=1099511627776)
 (h1:∀w',Below w.heap.size w w'->Calls Tryz.prog 55 #[v1,zv] w' fun e v=>e=.returned (.int .i64 s1)/\Below w'.heap.size w' v):
 Calls Tryz.prog 163 #[.agg #[a0,a1,v1],zv] w fun e w'=>e=.returned (.int .i64 (2+s1))/\Below w.heap.size w w':=by
 have H1:Hid _:=h1;clear h1;go_enter Tryz.func163,Tryz.ntmps163;go_wp2_with fail;have b0:Below w.heap.size w (w.alloc (.cells #[a0,a1,v1] 153)):=(Below.refl _ _).alloc (Nat.le_refl _) _;refine(H1.out _ b0).mono ?_;rintro e t1⟨rfl,hb⟩;have B9:Hid (Below w.heap.size w t1):=b0.trans (hb.mono b0.size);clear hb b0;go_wp2;go_ret;exact⟨rfl,B9.out⟩
def wrongI(s:SV)(own procs dmax room depth:Int):Int:=
 if stOK s procs=false then 2 else if room<s.thn∨room-s.thn<s.els then 3 else if(s.k=2∨s.k=3)/\dmax<depth then 4 else if s.k=4/\s.proc<=own then 5 else 0
theorem below_drewU{B:Nat}{w w':World}(h:Below B w w')(n:Nat):Below B w (w'.drewN n):=h.trans ⟨rfl,rfl,rfl,Nat.le_refl _,fun _ _=>rfl⟩
theorem wrong_any(t:Nat)(lst:Value)(own procs dmax err pos:Int)(s:SV)(room depth:Int)(w:World)(hT:Cl w t [lst,.int .i64 own,.int .i64 procs,.int .i64 dmax,.int .i64 err,.int .i64 pos])(r0:0<=room)(r1:room<=1048576):
 Calls Tryz.prog 78 #[.pointer (some ⟨t,0,none⟩),.agg #[.int .i64 s.k,.int .i64 s.op,.int .i64 s.d,.int .i64 s.a,.int .i64 s.b,.int .i64 s.imm,.int .i64 s.h,.int .i64 s.cond,.int .i64 s.thn,.int .i64 s.els,.int .i64 s.proc],.int .i64 room,.int .i64 depth] w fun e w'=>e=.returned (.int .i64 (wrongI s own procs dmax room depth))/\Below w.heap.size w w':=by
 obtain⟨res,hres⟩:∃x,wrongI s own procs dmax room depth=x:=⟨_,rfl⟩
 rw[hres]
 have HR:Hid (wrongI s own procs dmax room depth=res):=hres
 have HT:Hid (Cl w t [lst,.int .i64 own,.int .i64 procs,.int .i64 dmax,.int .i64 err,.int .i64 pos]):=hT
 have lt:=hT.1
 clear hres hT
 go_enter Tryz.func78,Tryz.ntmps78
 go_upto_region 1 with fail
 obtain⟨u,hu,hb,hc⟩:∃x,w.alloc (.cells #[.int .i64 s.k,.int .i64 s.op,.int .i64 s.d,.int .i64 s.a,.int .i64 s.b,.int .i64 s.imm,.int .i64 s.h,.int .i64 s.cond,.int .i64 s.thn,.int .i64 s.els,.int .i64 s.proc] 61)=x/\Below w.heap.size w x/\Cl x w.heap.size [.int .i64 s.k,.int .i64 s.op,.int .i64 s.d,.int .i64 s.a,.int .i64 s.b,.int .i64 s.imm,.int .i64 s.h,.int .i64 s.cond,.int .i64 s.thn,.int .i64 s.els,.int .i64 s.proc]:=⟨_,rfl,(Below.refl _ _).alloc (Nat.le_refl _) _,Cl.new⟩
 rw[hu]
 have B0:Hid (Below w.heap.size w u):=hb
 have C0:Hid (Cl u w.heap.size [.int .i64 s.k,.int .i64 s.op,.int .i64 s.d,.int .i64 s.a,.int .i64 s.b,.int .i64 s.imm,.int .i64 s.h,.int .i64 s.cond,.int .i64 s.thn,.int .i64 s.els,.int .i64 s.proc]):=hc
 have T0:Hid (Cl u t [lst,.int .i64 own,.int .i64 procs,.int .i64 dmax,.int .i64 err,.int .i64 pos]):=HT.out.below hb
 clear hu hb hc HT
 have lu:=C0.out.1
 have r0:∀w',Below u.heap.size u w'->w'.cell? ⟨w.heap.size,0,none⟩=some (.int .i64 s.k):=fun w' h=>(C0.out.below h).2 0 (by simp)
 have r1:∀w',Below u.heap.size u w'->w'.cell? ⟨w.heap.size,1,none⟩=some (.int .i64 s.op):=fun w' h=>(C0.out.below h).2 1 (by simp)
 have r2:∀w',Below u.heap.size u w'->w'.cell? ⟨w.heap.size,2,none⟩=some (.int .i64 s.d):=fun w' h=>(C0.out.below h).2 2 (by simp)
 have r3:∀w',Below u.heap.size u w'->w'.cell? ⟨w.heap.size,3,none⟩=some (.int .i64 s.a):=fun w' h=>(C0.out.below h).2 3 (by simp)
 have r4:∀w',Below u.heap.size u w'->w'.cell? ⟨w.heap.size,4,none⟩=some (.int .i64 s.b):=fun w' h=>(C0.out.below h).2 4 (by simp)
 have r5:∀w',Below u.heap.size u w'->w'.cell? ⟨w.heap.size,5,none⟩=some (.int .i64 s.imm):=fun w' h=>(C0.out.below h).2 5 (by simp)
 have r6:∀w',Below u.heap.size u w'->w'.cell? ⟨w.heap.size,6,none⟩=some (.int .i64 s.h):=fun w' h=>(C0.out.below h).2 6 (by simp)
 have r7:∀w',Below u.heap.size u w'->w'.cell? ⟨w.heap.size,7,none⟩=some (.int .i64 s.cond):=fun w' h=>(C0.out.below h).2 7 (by simp)
 have r8:∀w',Below u.heap.size u w'->w'.cell? ⟨w.heap.size,8,none⟩=some (.int .i64 s.thn):=fun w' h=>(C0.out.below h).2 8 (by simp)
 have r9:∀w',Below u.heap.size u w'->w'.cell? ⟨w.heap.size,9,none⟩=some (.int .i64 s.els):=fun w' h=>(C0.out.below h).2 9 (by simp)
 have r10:∀w',Below u.heap.size u w'->w'.cell? ⟨w.heap.size,10,none⟩=some (.int .i64 s.proc):=fun w' h=>(C0.out.below h).2 10 (by simp)
 have q2:∀w',Below u.heap.size u w'->w'.cell? ⟨t,2,none⟩=some (.int .i64 procs):=fun w' h=>(T0.out.below h).2 2 (by simp)
 refine wp_region_held_drew (S:=fun w'=>Below u.heap.size u w') (by kernel_rfl) (Below.refl _ _).drew (fun hd0=>?_)
 generalize u.drew=v0 at hd0⊢
 refine wpAnyH_ta 0 rfl ?_
 refine wpAnyH_ta 1 rfl ?_
 refine wpAnyH_ta 2 rfl ?_
 refine wpAnyH_ta 3 rfl ?_
 refine wpAnyH_ta 4 rfl ?_
 refine wpAnyH_ready (rs:=[5]) (by kernel_rfl) (by simp) ?_
 refine AllReadyH.cons rfl (fun KK hK=>?_) AllReadyH.nil
 go_simp
 refine(validStmt_any s procs _).mono ?_
 rintro e u1⟨rfl,hb⟩
 have hd1:Below u.heap.size u u1:=hd0.trans (hb.mono hd0.size)
 clear hb
 obtain⟨ok,hok⟩:∃x,stOK s procs=x:=⟨_,rfl⟩
 rw[hok]
 have HOK:Hid (stOK s procs=ok):=hok
 clear hok
 go_wp2_with fail
 refine hK.out _ _ hd1 (fun hHeld=>?_)
 clear hK KK
 try simp only[Act.put,List.getElem_toArray,List.getElem_cons_zero,List.getElem_cons_succ,List.setIfInBounds_toArray,List.set_cons_zero,List.set_cons_succ]
 refine wpAnyH_ta 6 rfl ?_
 refine wpAnyH_ta 7 rfl ?_
 refine wpAnyH_done (by kernel_rfl) ?_ _
 clear r0 r1 r2 r3 r4 r5 r6 r7 r8 r9 r10 q2
 have B1:Hid (Below w.heap.size w u1):=B0.out.trans (hd1.mono B0.out.size)
 have C1:Hid (Cl u1 w.heap.size [.int .i64 s.k,.int .i64 s.op,.int .i64 s.d,.int .i64 s.a,.int .i64 s.b,.int .i64 s.imm,.int .i64 s.h,.int .i64 s.cond,.int .i64 s.thn,.int .i64 s.els,.int .i64 s.proc]):=C0.out.below hd1
 have T1:Hid (Cl u1 t [lst,.int .i64 own,.int .i64 procs,.int .i64 dmax,.int .i64 err,.int .i64 pos]):=T0.out.below hd1
 clear hd0 hd1 hHeld B0 C0 T0
 obtain⟨c0,c1,c2,c3,c4,c5,c6,c7,c8,c9,c10⟩:=st_cl C1.out
 have zc:=C1.out.1
 have zt:=T1.out.1
 have t1:u1.cell? ⟨t,1,none⟩=some (.int .i64 own):=T1.out.2 1 (by simp)
 have t3:u1.cell? ⟨t,3,none⟩=some (.int .i64 dmax):=T1.out.2 3 (by simp)
 cases ok with
 |false=>
  go_wp2
  go_ret
  exact⟨ret_int (by rw[<-HR.out,wrongI,if_pos HOK.out]),B1.out⟩
 |true=>
 obtain⟨tp,ep⟩:=st_pos HOK.out
 have H1:Hid (¬stOK s procs=false):=(by rw[HOK.out];decide:¬stOK s procs=false)
 by_cases h1:room<s.thn
 ·have e1:decide (room<s.thn)=true:=by simp[h1]
  go_wp2
  go_ret
  exact⟨ret_int (by rw[<-HR.out,wrongI,if_neg H1.out,if_pos (Or.inl h1)]),B1.out⟩
 have e1:decide (room<s.thn)=false:=by simp;omega
 by_cases h2:room-s.thn<s.els
 ·have e2:decide (room-s.thn<s.els)=true:=by simp[h2]
  go_wp2
  go_ret
  exact⟨ret_int (by rw[<-HR.out,wrongI,if_neg H1.out,if_pos (Or.inr h2)]),B1.out⟩
 have e2:decide (room-s.thn<s.els)=false:=by simp;omega
 have H2:Hid (¬(room<s.thn∨room-s.thn<s.els)):=(by omega:¬(room<s.thn∨room-s.thn<s.els))
 have hle:s.thn<=room:=by omega
 clear h1 h2
 by_cases h3:(s.k=2∨s.k=3)/\dmax<depth
 ·have H3:Hid ((s.k=2∨s.k=3)/\dmax<depth):=h3
  have e4:decide (dmax<depth)=true:=by simp[h3.2]
  by_cases h2:s.k=2
  ·have e3:(s.k==2)=true:=by simp[h2]
   clear h3 h2
   go_wp2
   go_ret
   exact⟨ret_int (by rw[<-HR.out,wrongI,if_neg H1.out,if_neg H2.out,if_pos H3.out]),B1.out⟩
  ·have e3:(s.k==2)=false:=by simp[h2]
   have e5:(s.k==3)=true:=by rcases h3.1 with q|q<;>simp_all
   clear h3 h2
   go_wp2
   go_ret
   exact⟨ret_int (by rw[<-HR.out,wrongI,if_neg H1.out,if_neg H2.out,if_pos H3.out]),B1.out⟩
 have H3:Hid (¬((s.k=2∨s.k=3)/\dmax<depth)):=h3
 clear h3
 go_upto_region 5 with fail
 go_cut [31](fun s31 wx=>s31=.bool false/\wx=u1)
 case first=>
  by_cases h2:s.k=2
  ·have e3:(s.k==2)=true:=by simp[h2]
   have e4:decide (dmax<depth)=false:=by have:=H3.out;simp;omega
   clear h2
   go_wp2_with fail
   go_meet
   exact⟨rfl,rfl⟩
  ·have e3:(s.k==2)=false:=by simp[h2]
   by_cases h5:s.k=3
   ·have e5:(s.k==3)=true:=by simp[h5]
    have e4:decide (dmax<depth)=false:=by have:=H3.out;simp;omega
    clear h2 h5
    go_wp2_with fail
    go_meet
    exact⟨rfl,rfl⟩
   ·have e5:(s.k==3)=false:=by simp[h5]
    clear h2 h5
    go_wp2_with fail
    go_meet
    exact⟨rfl,rfl⟩
 case rest=>
  obtain⟨rfl,hw⟩:=hcut
  rw[hw]
  clear hw e1 e2
  go_upto_region 7 with fail
  by_cases k4:s.k=4
  ·have a4:(s.k==4)=true:=by simp[k4]
   have K4:Hid (s.k=4):=k4
   clear k4
   by_cases h5:s.proc<=own
   ·have e5:decide (s.proc<=own)=true:=by simp[h5]
    go_quiet(fail)
    go_wp2
    go_ret
    exact⟨ret_int (by rw[<-HR.out,wrongI,if_neg H1.out,if_neg H2.out,if_neg H3.out,if_pos ⟨K4.out,h5⟩]),below_drewU B1.out _⟩
   ·have e5:decide (s.proc<=own)=false:=by simp;omega
    have H5:Hid (¬s.proc<=own):=h5
    clear h5
    go_quiet(fail)
    go_wp2
    go_ret
    exact⟨ret_int (by rw[<-HR.out,wrongI,if_neg H1.out,if_neg H2.out,if_neg H3.out,if_neg (fun x=>by have:=H5.out;have:=x.2;omega)]),below_drewU B1.out _⟩
  ·have a4:(s.k==4)=false:=by simp[k4]
   have K4:Hid (¬s.k=4):=k4
   clear k4
   go_quiet(fail)
   go_wp2
   go_ret
   exact⟨ret_int (by rw[<-HR.out,wrongI,if_neg H1.out,if_neg H2.out,if_neg H3.out,if_neg (fun x=>K4.out x.1)]),below_drewU B1.out _⟩
end Go.Proofs.YtlkjdanoejdgbaaGreat
