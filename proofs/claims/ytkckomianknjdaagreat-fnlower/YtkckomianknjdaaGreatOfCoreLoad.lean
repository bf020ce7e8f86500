import Derived.Test.YtkckomianknjdaaGreatOfCoreF
import Derived.Test.YtkckomianknjdaaGreatOfCoreCatch
import Derived.Test.YtkckomianknjdaaGreatOfFlatAny
import Derived.Test.YtkckomianknjdaaGreatOfCoreSel
set_option maxHeartbeats 800000
namespace Go.Proofs.YtkckomianknjdaaGreat
open Go.RowKit
theorem Wz(b:Nat)(d:Option Addr)(a c:Nat)(p:Int)(w:World)(k:b<w.heap.size)(j:w.cell? (Va b 6)=some (Vi p))(l:(a:Int)<=p):
 Calls Tryz.prog 65 #[Vq b,.slice d a c] w fun e h=>e=.panicked [{v:=.iface 138 (.agg #[]),recovered:=false}]/\Below w.heap.size w h:=by
 go_enter Tryz.func65,Tryz.ntmps65;go_wp2;exact⟨rfl,rfl,Ah⟩
theorem Vm(j b h c k p:Nat)(F:Nat->Nat->Int)(w:World)(x:j<w.heap.size)(u:w.cell? (Va j 6)=some (Vi p))(z:p<c)(a:At w b h (c*6) (Ia F)):
 Calls Tryz.prog 65 #[Vq j,.slice (some ⟨b,h,none⟩) c k] w fun e s=>e=.returned (.agg #[Vi (F p 0),Vi (F p 1),Vi (F p 2),Vi (F p 3),Vi (F p 4),Vi (F p 5)])/\Below w.heap.size w s:=by
 have d:=hxy a;have y:=a.lt;clear a;have l:=((d.cell (i:=p*6+0) AB).trans (congrArg some (Cm F p 0 AB)))
 rw[Nat.add_zero]at l;have m:=((d.cell (i:=p*6+1) AB).trans (congrArg some (Cm F p 1 AB)))
 rw[<-Nat.add_assoc]at m;have n:=((d.cell (i:=p*6+2) AB).trans (congrArg some (Cm F p 2 AB)))
 rw[<-Nat.add_assoc]at n;have o:=((d.cell (i:=p*6+3) AB).trans (congrArg some (Cm F p 3 AB)))
 rw[<-Nat.add_assoc]at o;have q:=((d.cell (i:=p*6+4) AB).trans (congrArg some (Cm F p 4 AB)))
 rw[<-Nat.add_assoc]at q;have r:=((d.cell (i:=p*6+5) AB).trans (congrArg some (Cm F p 5 AB)))
 rw[<-Nat.add_assoc]at r;go_enter Tryz.func65,Tryz.ntmps65;go_wp2;exact bodyPost_ret (v:=.agg #[Vi (F p 0),Vi (F p 1),Vi (F p 2),Vi (F p 3),Vi (F p 4),Vi (F p 5)]) (by simp[results,Tryz.results65,go_sem]) rfl ⟨rfl,Ah⟩
theorem Fv(h j k a:Nat)(n d b c m:Int)(R:Nat->Int)(w:World)(s:a<8)(q:h<w.heap.size)(r:j<w.heap.size)
 (p:w.cell? (Va h 0)=some (Vs j 8 k))(u:w.cell? (Va j a)=some (.int .u64 (R a))):
 Calls Tryz.prog 107 #[Vq h,.agg #[Vi n,Vi d,Vi a,Vi b,Vi c,Vi m]] w fun e o=>e=.returned (.int .u64 (IntKind.u64.wrap (R a+IntKind.u64.wrap c)))/\Below w.heap.size w o:=by
 have l:(a:Int)<8:=AB;go_enter Tryz.func107,Tryz.ntmps107;go_wp2;go_region;all_goals(go_wp2;go_ret;exact⟨rfl,(Ah).drew⟩)
theorem GZ(h c j a b:Nat)(o d k n:Int)(R:Nat->Int)(w:World)(u:a<8)(x:b<8)(r:h<w.heap.size)(s:c<w.heap.size)
 (q:w.cell? (Va h 0)=some (Vs c 8 j))(y:w.cell? (Va c a)=some (.int .u64 (R a)))(z:w.cell? (Va c b)=some (.int .u64 (R b))):
 Calls Tryz.prog 109 #[Vq h,.agg #[Vi o,Vi d,Vi a,Vi b,Vi k,Vi n]] w fun e p=>e=.returned (.int .u64 (IntKind.u64.wrap (R a+R b)))/\Below w.heap.size w p:=by
 have l:(a:Int)<8:=AB;have m:(b:Int)<8:=AB;go_enter Tryz.func109,Tryz.ntmps109;go_wp2;go_region;all_goals(go_wp2;go_ret;exact⟨rfl,(Ah).drew⟩)
def lies(base address width:Int)(len:Nat):Bool:=decide (base<=address)&&decide (width<=len)&&decide (address-base<=len-width)
theorem UB(c a b:Int)(wr:Bool)(k:Option Addr)(d h:Nat)(w:World)(j:d<=1048576)(m:0<=c)(n:0<=a)(o:0<=b)(p:a<=18446744073709551615)(q:c<=18446744073709551615)(r:b<=8):
 Calls Tryz.prog 151 #[.agg #[.int .u64 c,.bool wr,.slice k d h],.int .u64 a,.int .u64 b] w fun e l=>e=.returned (.bool (lies c a b d))/\Below w.heap.size w l:=by
 go_enter Tryz.func151,Tryz.ntmps151;go_wp2;all_goals(go_ret;refine⟨congrArg (fun x=>Ending.returned (.bool x)) ?_,Ah⟩)
 all_goals(simp[lies];try omega)
def Seen(base bC n:Nat)(vO:Value)(xs:List Value)(kind val:Int)(w w':World):Prop:=
 ∃v' w1,w1.ownsRow base 109 2 v' (n+1) (xs++[Vi kind,.int .u64 val])/\w.grownBy w1 vO.ownBlock/\Below w1.heap.size (w1.setCell (Va bC 8) v') w'
theorem I7(c d n:Nat)(m:Value)(q:List Value)(z:Option Addr)(s C:Nat)(h b j:Int)(wr:Bool)(w:World)(F:n<=1048576)(o:c<=w.heap.size)(D:d<w.heap.size)(k:some d≠m.ownBlock)
 (A:w.cell? (Va d 5)=some (.slice z s C))(B:w.cell? (Va d 8)=some m)(E:w.frozen? (Va d 8)=false)(l:w.ownsRow c 109 2 m n q)(M:(s:Int)<=h):
 Calls Tryz.prog 134 #[Vq d,Vi h,.int .u64 b,.int .u64 j,.bool wr] w fun e K=>e=.panicked [{v:=.iface 138 (.agg #[]),recovered:=false}]/\Seen c d n m q 1 b w K:=by
 have u:=hxy l;go_enter Tryz.func134,Tryz.ntmps134;go_wp2_with fail;refine(IJ c d n m q _ b _ F AB AB k B E u).mono ?_;rintro e O⟨J,L,rfl,I,r,p⟩;have N:=(World.cell?_of_block (a:=Va d 5) (r.block d D k)).trans A;have x:Hid _:=I;have y:Hid _:=r;subst p;go_wp2;exact⟨rfl,rfl,J,L,x,y,Below.refl _ _⟩
theorem Ka(j k l S n:Nat)(u:Value)(E:List Value)(L cH h:Nat)(d:Nat->Bj)(b:Int)(c:Nat)(wr:Bool)(w:World)(hn:n<=1048576)(I:j<=w.heap.size)(Y:k<w.heap.size)(A:some k≠u.ownBlock)(J:some l≠u.ownBlock)(s:k≠l)
 (U:w.cell? (Va k 5)=some (Vs l L cH))(X:w.cell? (Va k 8)=some u)(hf:w.frozen? (Va k 8)=false)(r:w.ownsRow j 109 2 u n E)(hh:h<L)(m:At w l 0 (L*3) (CO d))
 (z:(d h).len<=1048576)(h0:0<=(d h).base)(h4:(d h).base<=18446744073709551615)(h1:0<=b)(h3:b<=18446744073709551615)(h2:1<=c)(h5:c<=8)(F:(d h).len≠0->(d h).ao=some ⟨S,0,none⟩)(aa:(d h).len<=(d h).cap):
 Calls Tryz.prog 134 #[Vq k,Vi h,.int .u64 b,.int .u64 c,.bool wr] w fun e w'=>Seen j k n u E 1 b w w'/\
  (if lies (d h).base b c (d h).len&&(!wr||(d h).wr)then e=.returned (.slice (some ⟨S,(b-(d h).base).toNat,none⟩) c ((d h).cap-(b-(d h).base).toNat))else e=.panicked [{v:=.iface 138 (.agg #[]),recovered:=false}]):=by
 have N:=hxy r;clear r;go_enter Tryz.func134,Tryz.ntmps134;go_wp2_with fail;refine(IJ j k n u E _ b _ hn AB AB A X hf N).mono ?_;rintro e w2⟨D,q,rfl,o1,x,K⟩;have q5:=(World.cell?_of_block (a:=Va k 5) (x.block k Y A)).trans U;have Z:=m.lt;have C:=x.block l Z J;have p0:=(World.cell?_of_block (a:=Va l (h*3)) C).trans ((by simpa using m.cell (i:=h*3+0) AB:w.cell? (Va l (h*3))=some (CO d (h*3+0))).trans (congrArg some (FR d h)));have p1:=(World.cell?_of_block (a:=Va l (h*3+1)) C).trans ((by simpa using m.cell (i:=h*3+1) AB:w.cell? (Va l (h*3+1))=some (CO d (h*3+1))).trans (congrArg some (FQ d h)));have p2:=(World.cell?_of_block (a:=Va l (h*3+2)) C).trans ((by simpa using m.cell (i:=h*3+2) AB:w.cell? (Va l (h*3+2))=some (CO d (h*3+2))).trans (congrArg some (Ef d h)));have r0:=(World.cell?_setCell_far q ⟨k,8,none⟩ ⟨l,h*3,none⟩ D s).trans p0;have r1:=(World.cell?_setCell_far q ⟨k,8,none⟩ ⟨l,h*3+1,none⟩ D s).trans p1;have r2:=(World.cell?_setCell_far q ⟨k,8,none⟩ ⟨l,h*3+2,none⟩ D s).trans p2;have zH:l<q.heap.size:=DY Z x.size;have zC:k<q.heap.size:=DY Y x.size;have Q:Hid _:=o1;have R:Hid _:=x;have HA:Hid _:=m;clear o1 x X hf U m C p0 p1 p2;subst K;go_wp2_with fail;refine(UB _ b c _ _ _ _ _ z h0 h1 AB h3 h4 AB).mono ?_;rintro e w3⟨rfl,o⟩;have s0:=(o.cell (p:=⟨q.heap.size,0,none⟩) AY).trans (show _=some (Value.int .u64 (d h).base)by simp[go_sem]);have M:=(o.cell (p:=⟨q.heap.size,1,none⟩) AY).trans (show _=some (Value.bool (d h).wr)by simp[go_sem]);have s2:=(o.cell (p:=⟨q.heap.size,2,none⟩) AY).trans (show _=some (Value.slice (d h).ao (d h).len (d h).cap)by simp[go_sem]);have HS:Hid (Seen j k n u E 1 b w w3):=⟨D,q,Q,R,(Al.alloc AY _).trans (o.mono AY)⟩
 clear o r0 r1 r2 q5 Q R HA N;cases hl:lies (d h).base b c (d h).len with
 |false=>
  clear s0 M s2;go_wp2;all_goals exact⟨rfl,HS,rfl⟩
 |true=>
  have y:=hl;simp only[lies,Bool.and_eq_true,decide_eq_true_eq]at y;have l1:=y;have HL:Hid _:=hl;clear hl;have ha:=F AB;have B:(b-(d h).base+(c:Int)).toNat-(b-(d h).base).toNat=c:=AB;have O:Hid _:=B;clear B;rw[ha]at s2;cases wr with
  |false=>
   go_wp2;all_goals(go_ret;exact⟨HS,by rw[O.out];rfl⟩)
  |true=>
   cases hw:(d h).wr with
   |false=>
    rw[hw]at M;go_wp2;all_goals exact⟨rfl,HS,rfl⟩
   |true=>
    rw[hw]at M;go_wp2;all_goals(go_ret;exact⟨HS,by rw[O.out];rfl⟩)
theorem Seen.of_below{l J n:Nat}{vO:Value}{d:List Value}{e val:Int}{w K w2:World}(a:Below w.heap.size w K)(h:Seen l J n vO d e val K w2):Seen l J n vO d e val w w2:=by
 obtain⟨b,u,o,g,k⟩:=h;exact⟨b,u,o,grownBy_below a g,k⟩
theorem Rl(q z s u n:Nat)(M:Value)(O:List Value)(E d a b o C j k:Int)(w:World)(hF:s<w.heap.size)(Q:u<w.heap.size)
 (J:w.cell? (Va s 0)=some (.func (.func 107) #[] #[]))(L:w.cell? (Va u 0)=some (.int .u64 k))
 (A:∀c,Below w.heap.size w c->Calls Tryz.prog 107 #[Vq z,.agg #[Vi E,Vi d,Vi a,Vi b,Vi o,Vi C]] c fun e y=>e=.returned (.int .u64 j)/\Below c.heap.size c y)
 (x:∀c,Below w.heap.size w c->Calls Tryz.prog 134 #[Vq z,Vi C,.int .u64 j,.int .u64 k,.bool false] c fun e y=>e=.panicked [{v:=.iface 138 (.agg #[]),recovered:=false}]/\Seen q z n M O 1 j c y):
 Calls Tryz.prog 133 #[Vq z,.agg #[Vi E,Vi d,Vi a,Vi b,Vi o,Vi C],Vq s,Vq u] w fun e c=>e=.panicked [{v:=.iface 138 (.agg #[]),recovered:=false}]/\Seen q z n M O 1 j w c:=by
 go_enter Tryz.func133,Tryz.ntmps133;go_wp2_with fail;generalize m:w.alloc (.cells #[Vi E,Vi d,Vi a,Vi b,Vi o,Vi C] 85)=l;have F:Bw w l:=by rw[<-m];exact Ah
 have r:w.heap.size<l.heap.size:=by rw[<-m];simp
 have j0:∀c,Bw l c->c.cell? ⟨w.heap.size,0,none⟩=some (Vi E):=fun c h=>(h.cell (p:=⟨w.heap.size,0,none⟩) r).trans (by rw[<-m];simp[go_sem])
 have j1:∀c,Bw l c->c.cell? ⟨w.heap.size,1,none⟩=some (Vi d):=fun c h=>(h.cell (p:=⟨w.heap.size,1,none⟩) r).trans (by rw[<-m];simp[go_sem])
 have j2:∀c,Bw l c->c.cell? ⟨w.heap.size,2,none⟩=some (Vi a):=fun c h=>(h.cell (p:=⟨w.heap.size,2,none⟩) r).trans (by rw[<-m];simp[go_sem])
 have j3:∀c,Bw l c->c.cell? ⟨w.heap.size,3,none⟩=some (Vi b):=fun c h=>(h.cell (p:=⟨w.heap.size,3,none⟩) r).trans (by rw[<-m];simp[go_sem])
 have j4:∀c,Bw l c->c.cell? ⟨w.heap.size,4,none⟩=some (Vi o):=fun c h=>(h.cell (p:=⟨w.heap.size,4,none⟩) r).trans (by rw[<-m];simp[go_sem])
 have j5:∀c,Bw l c->c.cell? ⟨w.heap.size,5,none⟩=some (Vi C):=fun c h=>(h.cell (p:=⟨w.heap.size,5,none⟩) r).trans (by rw[<-m];simp[go_sem])
 have zF:s<l.heap.size:=AB;have X:u<l.heap.size:=AB;have Y:Cb l s 0 (.func (.func 107) #[] #[]):=fun c h=>(h.cell (p:=Va s 0) zF).trans ((F.cell (p:=Va s 0) hF).trans J)
 have Z:Cb l u 0 (.int .u64 k):=fun c h=>(h.cell (p:=Va u 0) X).trans ((F.cell (p:=Va u 0) Q).trans L)
 clear m J L;refine wp_region_held_drew (S:=fun c=>Bw l c) Ab (Al.drew) (fun hHeld=>?_);refine lM [0,1,2,3,4,5,7] ?_;refine wpAnyH_ready (rs:=[6]) Ab AY ?_;refine AllReadyH.cons rfl (fun K I=>?_) AllReadyH.nil;go_simp;refine(A _ (F.trans (Al.drew.mono (Nat.le_of_lt r)))).mono ?_;rintro e U⟨rfl,B⟩;go_wp2_with fail;refine I.out _ _ (Al.drew.trans B) (fun D=>?_);clear I K;refine wpAnyH_ready (rs:=[8]) Ab AY ?_;refine AllReadyH.cons rfl (fun K I=>?_) AllReadyH.nil;go_simp;have N:Bw w U:=F.trans ((Al.drew.trans B).mono (Nat.le_of_lt r));refine(x _ N).mono ?_;rintro e w2⟨rfl,R⟩;exact⟨rfl,rfl,Seen.of_below N R⟩
theorem RG(q z s u n:Nat)(M:Value)(O:List Value)(E d a b o C j k:Int)(w:World)(hF:s<w.heap.size)(Q:u<w.heap.size)
 (J:w.cell? (Va s 0)=some (.func (.func 109) #[] #[]))(L:w.cell? (Va u 0)=some (.int .u64 k))
 (A:∀c,Below w.heap.size w c->Calls Tryz.prog 109 #[Vq z,.agg #[Vi E,Vi d,Vi a,Vi b,Vi o,Vi C]] c fun e y=>e=.returned (.int .u64 j)/\Below c.heap.size c y)
 (x:∀c,Below w.heap.size w c->Calls Tryz.prog 134 #[Vq z,Vi C,.int .u64 j,.int .u64 k,.bool false] c fun e y=>e=.panicked [{v:=.iface 138 (.agg #[]),recovered:=false}]/\Seen q z n M O 1 j c y):
 Calls Tryz.prog 133 #[Vq z,.agg #[Vi E,Vi d,Vi a,Vi b,Vi o,Vi C],Vq s,Vq u] w fun e c=>e=.panicked [{v:=.iface 138 (.agg #[]),recovered:=false}]/\Seen q z n M O 1 j w c:=by
 go_enter Tryz.func133,Tryz.ntmps133;go_wp2_with fail;generalize m:w.alloc (.cells #[Vi E,Vi d,Vi a,Vi b,Vi o,Vi C] 85)=l;have F:Bw w l:=by rw[<-m];exact Ah
 have r:w.heap.size<l.heap.size:=by rw[<-m];simp
 have j0:∀c,Bw l c->c.cell? ⟨w.heap.size,0,none⟩=some (Vi E):=fun c h=>(h.cell (p:=⟨w.heap.size,0,none⟩) r).trans (by rw[<-m];simp[go_sem])
 have j1:∀c,Bw l c->c.cell? ⟨w.heap.size,1,none⟩=some (Vi d):=fun c h=>(h.cell (p:=⟨w.heap.size,1,none⟩) r).trans (by rw[<-m];simp[go_sem])
 have j2:∀c,Bw l c->c.cell? ⟨w.heap.size,2,none⟩=some (Vi a):=fun c h=>(h.cell (p:=⟨w.heap.size,2,none⟩) r).trans (by rw[<-m];simp[go_sem])
 have j3:∀c,Bw l c->c.cell? ⟨w.heap.size,3,none⟩=some (Vi b):=fun c h=>(h.cell (p:=⟨w.heap.size,3,none⟩) r).trans (by rw[<-m];simp[go_sem])
 have j4:∀c,Bw l c->c.cell? ⟨w.heap.size,4,none⟩=some (Vi o):=fun c h=>(h.cell (p:=⟨w.heap.size,4,none⟩) r).trans (by rw[<-m];simp[go_sem])
 have j5:∀c,Bw l c->c.cell? ⟨w.heap.size,5,none⟩=some (Vi C):=fun c h=>(h.cell (p:=⟨w.heap.size,5,none⟩) r).trans (by rw[<-m];simp[go_sem])
 have zF:s<l.heap.size:=AB;have X:u<l.heap.size:=AB;have Y:Cb l s 0 (.func (.func 109) #[] #[]):=fun c h=>(h.cell (p:=Va s 0) zF).trans ((F.cell (p:=Va s 0) hF).trans J)
 have Z:Cb l u 0 (.int .u64 k):=fun c h=>(h.cell (p:=Va u 0) X).trans ((F.cell (p:=Va u 0) Q).trans L)
 clear m J L;refine wp_region_held_drew (S:=fun c=>Bw l c) Ab (Al.drew) (fun hHeld=>?_);refine lM [0,1,2,3,4,5,7] ?_;refine wpAnyH_ready (rs:=[6]) Ab AY ?_;refine AllReadyH.cons rfl (fun K I=>?_) AllReadyH.nil;go_simp;refine(A _ (F.trans (Al.drew.mono (Nat.le_of_lt r)))).mono ?_;rintro e U⟨rfl,B⟩;go_wp2_with fail;refine I.out _ _ (Al.drew.trans B) (fun D=>?_);clear I K;refine wpAnyH_ready (rs:=[8]) Ab AY ?_;refine AllReadyH.cons rfl (fun K I=>?_) AllReadyH.nil;go_simp;have N:Bw w U:=F.trans ((Al.drew.trans B).mono (Nat.le_of_lt r));refine(x _ N).mono ?_;rintro e w2⟨rfl,R⟩;exact⟨rfl,rfl,Seen.of_below N R⟩
theorem PL(q z s u n:Nat)(M:Value)(O:List Value)(E d a b o C j k:Int)(w:World)(hF:s<w.heap.size)(Q:u<w.heap.size)
 (J:w.cell? (Va s 0)=some (.func (.func 107) #[] #[]))(L:w.cell? (Va u 0)=some (.int .u64 k))
 (A:∀c,Below w.heap.size w c->Calls Tryz.prog 107 #[Vq z,.agg #[Vi E,Vi d,Vi a,Vi b,Vi o,Vi C]] c fun e y=>e=.returned (.int .u64 j)/\Below c.heap.size c y)
 (x:∀c,Below w.heap.size w c->Calls Tryz.prog 134 #[Vq z,Vi C,.int .u64 j,.int .u64 k,.bool true] c fun e y=>e=.panicked [{v:=.iface 138 (.agg #[]),recovered:=false}]/\Seen q z n M O 1 j c y):
 Calls Tryz.prog 135 #[Vq z,.agg #[Vi E,Vi d,Vi a,Vi b,Vi o,Vi C],Vq s,Vq u] w fun e c=>e=.panicked [{v:=.iface 138 (.agg #[]),recovered:=false}]/\Seen q z n M O 1 j w c:=by
 go_enter Tryz.func135,Tryz.ntmps135;go_wp2_with fail;generalize m:w.alloc (.cells #[Vi E,Vi d,Vi a,Vi b,Vi o,Vi C] 85)=l;have F:Bw w l:=by rw[<-m];exact Ah
 have r:w.heap.size<l.heap.size:=by rw[<-m];simp
 have j0:∀c,Bw l c->c.cell? ⟨w.heap.size,0,none⟩=some (Vi E):=fun c h=>(h.cell (p:=⟨w.heap.size,0,none⟩) r).trans (by rw[<-m];simp[go_sem])
 have j1:∀c,Bw l c->c.cell? ⟨w.heap.size,1,none⟩=some (Vi d):=fun c h=>(h.cell (p:=⟨w.heap.size,1,none⟩) r).trans (by rw[<-m];simp[go_sem])
 have j2:∀c,Bw l c->c.cell? ⟨w.heap.size,2,none⟩=some (Vi a):=fun c h=>(h.cell (p:=⟨w.heap.size,2,none⟩) r).trans (by rw[<-m];simp[go_sem])
 have j3:∀c,Bw l c->c.cell? ⟨w.heap.size,3,none⟩=some (Vi b):=fun c h=>(h.cell (p:=⟨w.heap.size,3,none⟩) r).trans (by rw[<-m];simp[go_sem])
 have j4:∀c,Bw l c->c.cell? ⟨w.heap.size,4,none⟩=some (Vi o):=fun c h=>(h.cell (p:=⟨w.heap.size,4,none⟩) r).trans (by rw[<-m];simp[go_sem])
 have j5:∀c,Bw l c->c.cell? ⟨w.heap.size,5,none⟩=some (Vi C):=fun c h=>(h.cell (p:=⟨w.heap.size,5,none⟩) r).trans (by rw[<-m];simp[go_sem])
 have zF:s<l.heap.size:=AB;have X:u<l.heap.size:=AB;have Y:Cb l s 0 (.func (.func 107) #[] #[]):=fun c h=>(h.cell (p:=Va s 0) zF).trans ((F.cell (p:=Va s 0) hF).trans J)
 have Z:Cb l u 0 (.int .u64 k):=fun c h=>(h.cell (p:=Va u 0) X).trans ((F.cell (p:=Va u 0) Q).trans L)
 clear m J L;refine wp_region_held_drew (S:=fun c=>Bw l c) Ab (Al.drew) (fun hHeld=>?_);refine lM [0,1,2,3,4,5,7] ?_;refine wpAnyH_ready (rs:=[6]) Ab AY ?_;refine AllReadyH.cons rfl (fun K I=>?_) AllReadyH.nil;go_simp;refine(A _ (F.trans (Al.drew.mono (Nat.le_of_lt r)))).mono ?_;rintro e U⟨rfl,B⟩;go_wp2_with fail;refine I.out _ _ (Al.drew.trans B) (fun D=>?_);clear I K;refine wpAnyH_ready (rs:=[8]) Ab AY ?_;refine AllReadyH.cons rfl (fun K I=>?_) AllReadyH.nil;go_simp;have N:Bw w U:=F.trans ((Al.drew.trans B).mono (Nat.le_of_lt r));refine(x _ N).mono ?_;rintro e w2⟨rfl,R⟩;exact⟨rfl,rfl,Seen.of_below N R⟩
theorem O8(q z s u n:Nat)(M:Value)(O:List Value)(E d a b o C j k:Int)(w:World)(hF:s<w.heap.size)(Q:u<w.heap.size)
 (J:w.cell? (Va s 0)=some (.func (.func 109) #[] #[]))(L:w.cell? (Va u 0)=some (.int .u64 k))
 (A:∀c,Below w.heap.size w c->Calls Tryz.prog 109 #[Vq z,.agg #[Vi E,Vi d,Vi a,Vi b,Vi o,Vi C]] c fun e y=>e=.returned (.int .u64 j)/\Below c.heap.size c y)
 (x:∀c,Below w.heap.size w c->Calls Tryz.prog 134 #[Vq z,Vi C,.int .u64 j,.int .u64 k,.bool true] c fun e y=>e=.panicked [{v:=.iface 138 (.agg #[]),recovered:=false}]/\Seen q z n M O 1 j c y):
 Calls Tryz.prog 135 #[Vq z,.agg #[Vi E,Vi d,Vi a,Vi b,Vi o,Vi C],Vq s,Vq u] w fun e c=>e=.panicked [{v:=.iface 138 (.agg #[]),recovered:=false}]/\Seen q z n M O 1 j w c:=by
 go_enter Tryz.func135,Tryz.ntmps135;go_wp2_with fail;generalize m:w.alloc (.cells #[Vi E,Vi d,Vi a,Vi b,Vi o,Vi C] 85)=l;have F:Bw w l:=by rw[<-m];exact Ah
 have r:w.heap.size<l.heap.size:=by rw[<-m];simp
 have j0:∀c,Bw l c->c.cell? ⟨w.heap.size,0,none⟩=some (Vi E):=fun c h=>(h.cell (p:=⟨w.heap.size,0,none⟩) r).trans (by rw[<-m];simp[go_sem])
 have j1:∀c,Bw l c->c.cell? ⟨w.heap.size,1,none⟩=some (Vi d):=fun c h=>(h.cell (p:=⟨w.heap.size,1,none⟩) r).trans (by rw[<-m];simp[go_sem])
 have j2:∀c,Bw l c->c.cell? ⟨w.heap.size,2,none⟩=some (Vi a):=fun c h=>(h.cell (p:=⟨w.heap.size,2,none⟩) r).trans (by rw[<-m];simp[go_sem])
 have j3:∀c,Bw l c->c.cell? ⟨w.heap.size,3,none⟩=some (Vi b):=fun c h=>(h.cell (p:=⟨w.heap.size,3,none⟩) r).trans (by rw[<-m];simp[go_sem])
 have j4:∀c,Bw l c->c.cell? ⟨w.heap.size,4,none⟩=some (Vi o):=fun c h=>(h.cell (p:=⟨w.heap.size,4,none⟩) r).trans (by rw[<-m];simp[go_sem])
 have j5:∀c,Bw l c->c.cell? ⟨w.heap.size,5,none⟩=some (Vi C):=fun c h=>(h.cell (p:=⟨w.heap.size,5,none⟩) r).trans (by rw[<-m];simp[go_sem])
 have zF:s<l.heap.size:=AB;have X:u<l.heap.size:=AB;have Y:Cb l s 0 (.func (.func 109) #[] #[]):=fun c h=>(h.cell (p:=Va s 0) zF).trans ((F.cell (p:=Va s 0) hF).trans J)
 have Z:Cb l u 0 (.int .u64 k):=fun c h=>(h.cell (p:=Va u 0) X).trans ((F.cell (p:=Va u 0) Q).trans L)
 clear m J L;refine wp_region_held_drew (S:=fun c=>Bw l c) Ab (Al.drew) (fun hHeld=>?_);refine lM [0,1,2,3,4,5,7] ?_;refine wpAnyH_ready (rs:=[6]) Ab AY ?_;refine AllReadyH.cons rfl (fun K I=>?_) AllReadyH.nil;go_simp;refine(A _ (F.trans (Al.drew.mono (Nat.le_of_lt r)))).mono ?_;rintro e U⟨rfl,B⟩;go_wp2_with fail;refine I.out _ _ (Al.drew.trans B) (fun D=>?_);clear I K;refine wpAnyH_ready (rs:=[8]) Ab AY ?_;refine AllReadyH.cons rfl (fun K I=>?_) AllReadyH.nil;go_simp;have N:Bw w U:=F.trans ((Al.drew.trans B).mono (Nat.le_of_lt r));refine(x _ N).mono ?_;rintro e w2⟨rfl,R⟩;exact⟨rfl,rfl,Seen.of_below N R⟩
end Go.Proofs.YtkckomianknjdaaGreat
