import Derived.Test.YtcjnmdgomocpgaaGreatDoorOfSpecLeaf
import Derived.Test.YtcjnmdgomocpgaaGreatDoorOfMachCopy2
import Derived.Test.YtcjnmdgomocpgaaGreatDoorOfDrawFlat
set_option maxHeartbeats 2000000
set_option maxRecDepth 20000
namespace Go.Proofs.YtcjnmdgomocpgaaGreatDoor
open Go.RowKit
variable {I:Array Value}{d:List Value}{Y e l n p q r s:Nat}{U:Option Addr}{Q u w:World}
def Two(W X w':World):Prop:=Below W.heap.size W w'∨Below W.heap.size X w'
section
variable{w w':World}{base bC:Nat}{p:Pl}{nx:Int}{tab:List Value}{M:MV}
end
abbrev Ia:=Sum (MV×Int) MV
abbrev Ia.done(M:MV)(nx:Int):Ia:=.inl (M,nx)
abbrev Ia.flt(M:MV):Ia:=.inr M
def Hu(f:Nat->Int)(o:Nat):Nat->Int
 |0=>0
 |k+1=>Hu f o k+f (o+k)*2^(8*k)
def MV.pokeN(M:MV)(h o:Nat)(v:Int):Nat->MV
 |0=>M
 |k+1=>(M.pokeN h o v k).poke h (o+k) (v/2^(8*k)%256)
def Cm(store:Bool)(width:Nat)(addr:Int)(d h:Nat)(M:MV)(nx:Int):Ia:=
 if M.nH<=h then .flt (M.see 1 addr)
 else if lies (M.Hp h).base addr width (M.Hp h).len&&(!store||(M.Hp h).wr)then
  if store then .done ((M.see 1 addr).pokeN h (addr-(M.Hp h).base).toNat (M.R d) width) nx
  else .done ((M.see 1 addr).setR d (Hu (M.Hp h).dat (addr-(M.Hp h).base).toNat width)) nx
 else .flt (M.see 1 addr)
def Da(has flag wanted:Bool)(imm:Int)(M:MV)(nx:Int):Ia:=
 if has then(if flag==wanted then .done (M.see 2 1) imm else .done (M.see 2 0) nx)else .flt M
def FK(M:MV)(a:Nat)(imm:Int):Int:=IntKind.u64.wrap (M.R a+IntKind.u64.wrap imm)
def FJ(M:MV)(a b:Nat):Int:=IntKind.u64.wrap (M.R a+M.R b)
def exec(op d a b h:Nat)(imm:Int)(M:MV)(nx:Int):Ia:=
 match op with
 |1=>.done (M.setR d (M.R a)) nx
 |2=>.done (M.setR d (IntKind.u64.wrap imm)) nx
 |3=>.done (M.setR d (IntKind.u64.wrap (M.R a+M.R b))) nx
 |4=>.done (M.setR d (IntKind.u64.wrap (M.R a-M.R b))) nx
 |5=>.done (M.setR d (IntKind.u64.wrap (M.R a*M.R b))) nx
 |6=>.done (M.setR d (bits BinOp.and IntKind.u64 (M.R a) (M.R b))) nx
 |7=>.done (M.setR d (bits BinOp.or IntKind.u64 (M.R a) (M.R b))) nx
 |8=>.done (M.setR d (bits BinOp.xor IntKind.u64 (M.R a) (M.R b))) nx
 |9=>.done ((M.see 3 (DZ (M.R a).toNat*65+DZ (M.R b).toNat)).setR d (if M.R b=0 then 0 else M.R a/M.R b)) nx
 |10=>.done (M.setR d (IntKind.u64.wrap (M.R a+IntKind.u64.wrap imm))) nx
 |11=>.done (M.setR d (bits BinOp.and IntKind.u64 (M.R a) (IntKind.u64.wrap imm))) nx
 |12=>.done (M.setR d (IntKind.u64.wrap (M.R a*2^(IntKind.u64.wrap imm).toNat))) nx
 |13=>.done (M.setR d (M.R a/2^(IntKind.u64.wrap imm).toNat)) nx
 |14=>.done ((M.setR d (Ih (M.R a) (M.R b) 0)).flags (Ih (M.R a) (M.R b) 0) (carry (M.R a) (M.R b) 0 !=0)) nx
 |15=>if M.hc then .done ((M.setR d (Ih (M.R a) (M.R b) (if M.c then 1 else 0))).flags (Ih (M.R a) (M.R b) (if M.c then 1 else 0)) (carry (M.R a) (M.R b) (if M.c then 1 else 0) !=0)) nx else .flt M
 |16=>.done ((M.flags (Ep (M.R a) (M.R b)) (borrow (M.R a) (M.R b) !=0)).setR d (Ep (M.R a) (M.R b))) nx
 |17=>.done (M.flags (Ep (M.R a) (M.R b)) (borrow (M.R a) (M.R b) !=0)) nx
 |18=>.done (M.flags (Ep (M.R a) (IntKind.u64.wrap imm)) (borrow (M.R a) (IntKind.u64.wrap imm) !=0)) nx
 |19=>if M.hz then .done (M.setR d (if M.z then M.R a else M.R b)) nx else .flt M
 |20=>if M.hc then .done (M.setR d (if M.c then M.R a else M.R b)) nx else .flt M
 |21=>Cm false 1 (FK M a imm) d h M nx
 |22=>Cm false 8 (FK M a imm) d h M nx
 |23=>Cm true 1 (FK M a imm) d h M nx
 |24=>Cm true 8 (FK M a imm) d h M nx
 |25=>Cm false 1 (FJ M a b) d h M nx
 |26=>Cm false 8 (FJ M a b) d h M nx
 |27=>Cm true 1 (FJ M a b) d h M nx
 |28=>Cm true 8 (FJ M a b) d h M nx
 |29=>.done M imm
 |30=>Da M.hz M.z true imm M nx
 |31=>Da M.hz M.z false imm M nx
 |32=>Da M.hc M.c true imm M nx
 |33=>Da M.hc M.c false imm M nx
 |_=>.done {M with st:=1} M.pc
structure MV.Ok(M:MV):Prop where
 reg:∀i,i<8->0<=M.R i/\M.R i<=18446744073709551615
 heaps:M.nH<=8
 heap:∀i,i<M.nH->0<=(M.Hp i).base/\1<=(M.Hp i).len/\(M.Hp i).len<=4096/\(M.Hp i).base+(M.Hp i).len<=18446744073709551615
 dat:∀i,i<M.nH->∀j,j<(M.Hp i).len->0<=(M.Hp i).dat j/\(M.Hp i).dat j<=255
theorem Du(x:Int):0<=IntKind.u64.wrap x/\IntKind.u64.wrap x<=18446744073709551615:=by
 have h:IntKind.u64.wrap x=x%18446744073709551616:=by rfl
 rw[h];omega
theorem Mem.setLow{p:Pl}{M:MV}(h:Mem w l p M){a:Addr}(b:a.block<l)(v:Value):Mem (w.setCell a v) l p M:=
 ⟨ownsRow_setCell_below h.regs b v,ownsRow_setCell_below h.heaps b v,fun i c=>ownsRow_setCell_below (h.data i c) b v,ownsRow_setCell_below h.obs b v,h.ne⟩
theorem G8{v:Value}(h:w.ownsRow l e s v n d)(j:0<n):∃g c,v=Vs g n c:=by
 rcases h.2 with⟨_,rfl⟩|⟨g,a,b,rfl,_⟩
 ·omega
 ·exact⟨_,_,rfl⟩
theorem KD{v:Value}(h:w.ownsRow l e s v n d):∃a c,v=.slice a n c:=by
 rcases h.2 with⟨rfl,rfl⟩|⟨g,b,j,rfl,_⟩
 ·exact⟨_,_,rfl⟩
 ·exact⟨_,_,rfl⟩
theorem UK(K V:Nat->Int)(i:Nat):(Dg K V i).oneCell'=true:=by
 unfold Dg;split<;>rfl
section
variable{w:World}{base bC:Nat}{p:Pl}{nx:Int}{tab:List Value}{M:MV}
end
section
variable{w:World}{base bC:Nat}{p:Pl}{nx:Int}{tab:List Value}{M:MV}
end
theorem JY(f:Nat->Int)(o:Nat):∀k,(∀j,j<k->0<=f (o+j)/\f (o+j)<=255)->0<=Hu f o k/\Hu f o k<2^(8*k)
 |0,_=>by simp[Hu]
 |k+1,h=>by
  have c:=JY f o k fun j b=>h j AB
  have a:=h k AB;have e:(2:Int)^(8*(k+1))=256*2^(8*k):=by rw[show 8*(k+1)=8*k+8 by omega,Int.pow_add];omega
  unfold Hu;rw[e];have p:(0:Int)<2^(8*k):=Int.pow_pos Ad;have d:0<=f (o+k)*2^(8*k):=Int.mul_nonneg a.1 (Int.le_of_lt p);have l:f (o+k)*2^(8*k)<=255*2^(8*k):=Int.mul_le_mul_of_nonneg_right a.2 (Int.le_of_lt p);omega
theorem kz{x:Int}(a:0<=x)(b:x<18446744073709551616):IntKind.u64.wrap x=x:=by
 have h:IntKind.u64.wrap x=x%18446744073709551616:=by rfl
 rw[h];omega
theorem Qk{k:Nat}(h:k<=7):(256:Int)*2^(8*k)<=18446744073709551616:=by
 match k,h with
 |0,_|1,_|2,_|3,_|4,_|5,_|6,_|7,_=>decide
theorem XQ{y:Int}{k:Nat}(c:k<=7)(a:0<=y)(b:y<=255):0<=y*2^(8*k)/\y*2^(8*k)<18446744073709551616:=by
 have p:(0:Int)<2^(8*k):=Int.pow_pos Ad;have d:0<=y*2^(8*k):=Int.mul_nonneg a (Int.le_of_lt p);have e:y*2^(8*k)<=255*2^(8*k):=Int.mul_le_mul_of_nonneg_right b (Int.le_of_lt p);have:=Qk c;omega
def Such(S:World->Prop)(w:World):Prop:=S w
theorem MV.pokeN_len(M:MV)(h o:Nat)(v:Int):∀k,(M.pokeN h o v k).nH=M.nH/\(∀i,((M.pokeN h o v k).Hp i).len=(M.Hp i).len)/\(M.pokeN h o v k).R=M.R
 |0=>⟨rfl,fun _=>rfl,rfl⟩
 |k+1=>by
  obtain⟨a,b,c⟩:=MV.pokeN_len M h o v k;refine⟨a,fun i=>?_,c⟩;rw[<-b i];show(((M.pokeN h o v k).poke h (o+k) (v/2^(8*k)%256)).Hp i).len=_;unfold MV.poke;by_cases e:i=h<;>simp[e]
section
variable{w:World}{base bC:Nat}{p:Pl}{nx:Int}{tab:List Value}{M:MV}
end
def stepM(len:Nat)(F:Nat->Nat->Int)(M:MV):MV:=
 if(len:Int)<=M.pc then M.fault
 else match exec (F M.pc.toNat 0).toNat (F M.pc.toNat 1).toNat (F M.pc.toNat 2).toNat (F M.pc.toNat 3).toNat (F M.pc.toNat 5).toNat (F M.pc.toNat 4) M (M.pc+1)with
  |.inl (M',nx)=>{M' with pc:=nx}
  |.inr M'=>M'.fault
theorem Ht{u:Bool}{v:Int}(h:Dc u v 0 7=true):0<=v/\v<=7:=by
 unfold Dc EM at h;cases u<;>simp at h<;>omega
theorem Ma{Z d a b m h:Int}(e:BF Z d a b m h=true):(1<=Z/\Z<=34)/\(0<=d/\d<=7)/\(0<=a/\a<=7)/\(0<=b/\b<=7)/\(0<=h/\h<=7):=by
 unfold BF at e;simp only[Bool.and_eq_true]at e;obtain⟨⟨⟨⟨⟨j,k⟩,l⟩,n⟩,_⟩,o⟩:=e;have c:1<=Z/\Z<=34:=by unfold EM at j;simpa using j
 exact⟨c,Ht k,Ht l,Ht n,Ht o⟩
section
variable{w:World}{base bC:Nat}{p:Pl}{nx:Int}{tab:List Value}{M:MV}
end
section
variable{w:World}{base bC:Nat}{p:Pl}{nx:Int}{tab:List Value}{M:MV}
end
theorem Yc{Z d a b m h:Int}(j:BF Z d a b m h=true)(k:Z=12∨Z=13):0<=m/\m<=63:=by
 rcases k with rfl|rfl;all_goals
  unfold BF at j;simp only[Bool.and_eq_true]at j;obtain⟨⟨_,c⟩,_⟩:=j;first
   |(have e:Ap 12 8=true:=by decide+kernel
     rw[e]at c;simpa[Dc,EM,DF,DL]using c)
   |(have e:Ap 13 8=true:=by decide+kernel
     rw[e]at c;simpa[Dc,EM,DF,DL]using c)
section
variable{w:World}{base bC:Nat}{p:Pl}{nx:Int}{tab:List Value}{M:MV}
end
structure HD where
 base:Int
 wr:Bool
 v:Value
 ds:List Int
def ZU(h:HD):List Value:=[.int .u64 h.base,.bool h.wr,h.v]
def xM(o:Int×Int):List Value:=[Vi o.1,.int .u64 o.2]
def JL(x:Int):Prop:=0<=x/\x<=18446744073709551615
theorem Qd(x:Int):JL (IntKind.u64.wrap x):=by
 unfold JL;rw[IntKind.wrap_u64];omega
structure Md where
 vR:Value
 z:Bool
 c:Bool
 hz:Bool
 hc:Bool
 vH:Value
 pc:Int
 st:Int
 vO:Value
 rs:List Int
 hs:List HD
 os:List (Int×Int)
def GQ:Md:=⟨.slice none 0 0,false,false,false,false,.slice none 0 0,0,0,.slice none 0 0,[],[],[]⟩
def Md.a(m:Md):Array Value:=#[m.vR,.bool m.z,.bool m.c,.bool m.hz,.bool m.hc,m.vH,Vi m.pc,Vi m.st,m.vO]
structure DW(w:World)(p:Nat)(ao:Option Addr)(n cap:Nat)(m:Md)(u:World):Prop where
 F:Fw p w u
 K:CJ u p ao n cap
 R:u.ownsRow w.heap.size 41 1 m.vR m.rs.length (m.rs.map (.int .u64 ·))
 H:u.ownsRow w.heap.size 43 3 m.vH m.hs.length (m.hs.flatMap ZU)
 O:u.ownsRow w.heap.size 167 2 m.vO m.os.length (m.os.flatMap xM)
 D:∀h∈m.hs,u.ownsRow w.heap.size 5 1 h.v h.ds.length (h.ds.map (.int .u8 ·))
 rr:∀x∈m.rs,JL x
 hr:∀h∈m.hs,JL h.base/\h.ds.length<=4100/\∀x∈h.ds,0<=x/\x<=255
 pw:p<w.heap.size
theorem DW.fw{m:Md}(h:DW w p U n Y m u)(f:Fw p u Q)(c:CJ Q p U n Y):DW w p U n Y m Q:=
 ⟨h.F.trans f,c,Eb h.R f h.pw,Eb h.H f h.pw,Eb h.O f h.pw,fun x a=>Eb (h.D x a) f h.pw,h.rr,h.hr,h.pw⟩
theorem DW.below{m:Md}(h:DW w p U n Y m u)(f:Below u.heap.size u Q):DW w p U n Y m Q:=h.fw (.of_below f) (h.K.below f)
theorem DW.put{m:Md}(h:DW w p U n Y m u)(A:w.heap.size<=q)(b:u.heap[q]?=some (.cells I 39))(j:Nat)(v:Value):DW w p U n Y m (u.setCell (Va q j) v):=by
 have c:∀{e s B:Nat}{l:Value}{C:List Value},u.ownsRow w.heap.size e s l B C->39≠e->l.ownBlock≠some q:=fun y z a=>by
  rcases y.2 with⟨d,_⟩|⟨g,Y,o,d,_,k,_⟩
  ·rw[d]at a;cases a
  ·rw[d]at a
   have r:=Option.some.inj a;subst r;rw[b]at k;exact z (Obj.cells.inj (Option.some.inj k)).2.1
 exact⟨h.F.put A _ _,h.K.put (by have:=h.pw;omega) _ _,CV h.R (c h.R Ad) _ _,CV h.H (c h.H Ad) _ _,CV h.O (c h.O Ad) _ _,fun x b=>CV (h.D x b) (c (h.D x b) Ad) _ _,h.rr,h.hr,h.pw⟩
structure DX(w:World)(p:Nat)(ao:Option Addr)(n cap:Nat)(q r:Nat)(m:Md)(u:World):Prop where
 W:DW w p ao n cap m u
 X:u.heap[q]?=some (.cells m.a 39)
 Z:u.heap[r]?=some (.cells GQ.a 39)
 wq:w.heap.size<=q
 wr:w.heap.size<=r
 ne:q≠r
theorem Hr{o:Obj}(h:u.heap[q]?=some o)(f:Fw p u Q)(a:p≠q):Q.heap[q]?=some o:=(f.block q (I8.1 h).1 (fun e=>a e.symm)).trans h
theorem DX.fw{m:Md}(h:DX w p U n Y q r m u)(f:Fw p u Q)(c:CJ Q p U n Y):DX w p U n Y q r m Q:=
 ⟨h.W.fw f c,Hr h.X f (by have:=h.W.pw;have:=h.wq;omega),Hr h.Z f (by have:=h.W.pw;have:=h.wr;omega),h.wq,h.wr,h.ne⟩
theorem DX.below{m:Md}(h:DX w p U n Y q r m u)(f:Below u.heap.size u Q):DX w p U n Y q r m Q:=h.fw (.of_below f) (h.W.K.below f)
theorem DX.store{b:Md}(h:DW w p U n Y b u)(X:u.heap[q]?=some (.cells I 39))(Z:u.heap[r]?=some (.cells GQ.a 39))(d:w.heap.size<=q)(wr:w.heap.size<=r)(c:q≠r)(j:Nat)(v:Value)(k:I.setIfInBounds j v=b.a):DX w p U n Y q r b (u.setCell (Va q j) v):=
 ⟨h.put d X j v,by rw[<-k];exact BG X j v,Ao Z (fun e=>c e.symm) j v,d,wr,c⟩
theorem KG{E:Option Nat}{o:Obj}(h:u.heap[q]?=some o)(a:u.grownBy Q E)(b:E≠some q):Q.heap[q]?=some o:=(a.block q (I8.1 h).1 (fun e=>b e.symm)).trans h
theorem Lm{E:Nat}{D:Value}(n:u.heap[q]?=some (.cells I 39))(l:u.ownsRow w.heap.size e s D E d)(m:39≠e):D.ownBlock≠some q:=fun a=>by
 rcases l.2 with⟨b,_⟩|⟨g,h,j,b,_,c,_⟩
 ·rw[b]at a;cases a
 ·rw[b]at a
  have k:=Option.some.inj a;subst k;rw[n]at c;exact m (Obj.cells.inj (Option.some.inj c)).2.1
theorem DW.growR{m:Md}(h:DW w p U n Y m u)(d:Value)(x:Int)(l:JL x)(b:u.grownBy Q m.vR.ownBlock)(j:Q.ownsRow w.heap.size 41 1 d (m.rs.length+1) (m.rs.map (.int .u64 ·)++[.int .u64 x])):DW w p U n Y {m with vR:=d,rs:=m.rs++[x]} Q:=by
 refine⟨h.F.grown b (fun k c=>(h.R.lt k c).1),h.K.grown b (fun k c=>by have:=(h.R.lt k c).1;have:=h.pw;omega),?_,h.H.kept b (Aj h.H h.R Ad),h.O.kept b (Aj h.O h.R Ad),fun y a=>(h.D y a).kept b (Aj (h.D y a) h.R Ad),fun y a=>?_,h.hr,h.pw⟩
 ·show Q.ownsRow _ _ _ d (m.rs++[x]).length ((m.rs++[x]).map _)
  rw[List.length_append,List.map_append];exact j
 ·rcases List.mem_append.1 a with a|a
  ·exact h.rr y a
  ·have e:y=x:=by simpa using a
   rw[e];exact l
theorem DW.growH{m:Md}(h:DW w p U n Y m u)(d:Value)(x:HD)(o:JL x.base/\x.ds.length<=4100/\∀y∈x.ds,0<=y/\y<=255)(j:u.ownsRow w.heap.size 5 1 x.v x.ds.length (x.ds.map (.int .u8 ·)))(b:u.grownBy Q m.vH.ownBlock)(l:Q.ownsRow w.heap.size 43 3 d (m.hs.length+1) (m.hs.flatMap ZU++ZU x)):DW w p U n Y {m with vH:=d,hs:=m.hs++[x]} Q:=by
 refine⟨h.F.grown b (fun k c=>(h.H.lt k c).1),h.K.grown b (fun k c=>by have:=(h.H.lt k c).1;have:=h.pw;omega),h.R.kept b (Aj h.R h.H Ad),?_,h.O.kept b (Aj h.O h.H Ad),fun y a=>?_,h.rr,fun y a=>?_,h.pw⟩
 ·show Q.ownsRow _ _ _ d (m.hs++[x]).length ((m.hs++[x]).flatMap _)
  rw[List.length_append,List.flatMap_append];simpa using l
 ·rcases List.mem_append.1 a with a|a
  ·exact(h.D y a).kept b (Aj (h.D y a) h.H Ad)
  ·have e:y=x:=by simpa using a
   rw[e];exact j.kept b (Aj j h.H Ad)
 ·rcases List.mem_append.1 a with a|a
  ·exact h.hr y a
  ·have e:y=x:=by simpa using a
   rw[e];exact o
theorem z9(h:u.heap[r]?=some (.cells GQ.a 39)):u.cell? (Va r 0)=some (.slice none 0 0)/\u.cell? (Va r 1)=some (.bool false)/\u.cell? (Va r 2)=some (.bool false)/\u.cell? (Va r 3)=some (.bool false)/\u.cell? (Va r 4)=some (.bool false)/\u.cell? (Va r 5)=some (.slice none 0 0)/\u.cell? (Va r 6)=some (Vi 0)/\u.cell? (Va r 7)=some (Vi 0)/\u.cell? (Va r 8)=some (.slice none 0 0)/\(∀j,u.frozen? (Va r j)=false)/\r<u.heap.size:=
 ⟨AJ h 0,AJ h 1,AJ h 2,AJ h 3,AJ h 4,AJ h 5,AJ h 6,AJ h 7,AJ h 8,CP h,(I8.1 h).1⟩
theorem DW.put9{m:Md}(h:DW w p U n Y m u)(a:w.heap.size<=q)(r:u.heap[q]?=some (.cells I 39))(b c d e j k l o s:Value):DW w p U n Y m (((((((((u.setCell (Va q 0) b).setCell (Va q 1) c).setCell (Va q 2) d).setCell (Va q 3) e).setCell (Va q 4) j).setCell (Va q 5) k).setCell (Va q 6) l).setCell (Va q 7) o).setCell (Va q 8) s):=by
 have x:=BG r 0 b;have y:=BG x 1 c;have z:=BG y 2 d;have A:=BG z 3 e;have B:=BG A 4 j;have C:=BG B 5 k;have D:=BG C 6 l;have E:=BG D 7 o;exact((((((((h.put a r 0 b).put a x 1 c).put a y 2 d).put a z 3 e).put a A 4 j).put a B 5 k).put a C 6 l).put a D 7 o).put a E 8 s
theorem DX.cells{m:Md}(h:DX w p U n Y q r m u):(u.cell? (Va q 0)=some m.vR/\u.cell? (Va q 1)=some (.bool m.z)/\u.cell? (Va q 2)=some (.bool m.c)/\u.cell? (Va q 3)=some (.bool m.hz)/\u.cell? (Va q 4)=some (.bool m.hc)/\u.cell? (Va q 5)=some m.vH/\u.cell? (Va q 6)=some (Vi m.pc)/\u.cell? (Va q 7)=some (Vi m.st)/\u.cell? (Va q 8)=some m.vO)/\(∀j,u.frozen? (Va q j)=false)/\q<u.heap.size:=
 ⟨⟨AJ h.X 0,AJ h.X 1,AJ h.X 2,AJ h.X 3,AJ h.X 4,AJ h.X 5,AJ h.X 6,AJ h.X 7,AJ h.X 8⟩,CP h.X,(I8.1 h.X).1⟩
theorem Wq(p:Nat)(b:Option Addr)(n a:Nat)(w:World)(y:CJ w p b n a):
 Ks 110 #[Vq p] w fun e m=>∃x:Int,e=.returned (.int .u64 x)/\JL x/\Fw p w m/\CJ m p b n a:=by
 have r:=hxy y;go_enter Tryz.func110,Tryz.ntmps110;go_wp2_with fail;refine(Af p b n a 6 _ AB r).mono ?_;rintro e B⟨k,rfl,z,A,f,c⟩;have q:=hxy f;have o:=hxy c;go_wp2_with fail;refine(Af p b n a 300 _ AB o).mono ?_;rintro e C⟨x,rfl,D,E,f,c⟩;have h:=hxy (q.trans f);have d:=hxy c;by_cases j:k=0
 ·have s:(k==0)=true:=by rw[beq_iff_eq];exact j
  go_wp2_with fail;go_ret;exact⟨_,rfl,⟨AB,AB⟩,h,d⟩
 ·have s:(k==0)=false:=by rw[beq_eq_false_iff_ne];exact j
  by_cases l:k=1
  ·have u:(k==1)=true:=by rw[beq_iff_eq];exact l
   go_wp2_with fail;go_ret;exact⟨_,rfl,⟨AB,AB⟩,h,d⟩
  ·have u:(k==1)=false:=by rw[beq_eq_false_iff_ne];exact l
   go_wp2_with fail;go_ret;exact⟨_,rfl,⟨AB,AB⟩,h,d⟩
theorem Ki(p:Nat)(r:Option Addr)(n b:Nat)(m:Int)(w:World)(m0:0<=m)(m1:m<=4096)(hc:CJ w p r n b):
 Ks 67 #[Vq p,Vi m] w fun e U=>∃(v:Value),e=.returned v/\∃a:List Int,(a.length:Int)=m/\(∀x∈a,0<=x/\x<=255)/\U.ownsRow w.heap.size 5 1 v a.length (a.map (.int .u8 ·))/\Fw p w U/\CJ U p r n b:=by
 have lp:=hc.lt;have HC:=hxy hc;obtain⟨A,hi,O,Q,R⟩:=info_parts RU;have l:Hid (Tryz.prog.info? 5=some A/\A.zero=some (.int .u8 0)/\A.size=1/\A.bytes=1):=⟨hi,O,Q,R⟩
 go_enter Tryz.func67,Tryz.ntmps67;go_wp2_with fail;have f0:Fw p w (w.alloc (.cells #[] 5)):=.of_below Ai;have c0:CJ (w.alloc (.cells #[] 5)) p r n b:=HC.below Ai;have o0:(w.alloc (.cells #[] 5)).ownsRow w.heap.size 5 1 (Vs w.heap.size 0 0) 0 []:=World.ownsRow_lit w #[] 0 BQ (by unfold maxLen;omega) rfl;go_loopw [5,6](fun ov S wr=>∃(a:List Int),S=Vi (a.length:Int)/\(a.length:Int)<=m/\(∀x∈a,0<=x/\x<=255)/\wr.ownsRow w.heap.size 5 1 ov a.length (a.map (.int .u8 ·))/\Fw p w wr/\CJ wr p r n b)(fun _ S _=>(m-intOf S).toNat)
 case atStart=>exact⟨[],rfl,by simpa using m0,fun _ h=>absurd h List.not_mem_nil,o0,f0,c0⟩
 case round=>
  obtain⟨a,K,N,J,ho,hf,I⟩:=hrel;subst K;obtain⟨k,hk⟩:∃k:Int,(a.length:Int)=k:=⟨_,rfl⟩
  have B:=hxy hk;have k0:0<=k:=AB;rw[hk]at N⊢;obtain⟨oa,oc,M⟩:=Cf ho;subst M;have Z:=hxy ho;have Y:=hxy hf;have HU:=hxy I;have HD:=hxy J;by_cases aa:k<m
  ·go_wp2_with fail
   refine(Hg p r n b wr HU).mono ?_;rintro e q⟨x,rfl,x0,x1,f,c⟩;have X:=hxy (Y.trans f);have C2:=hxy c;have E:=hxy (Eb Z f lp);have F:∀o,w.heap.size<=(q.alloc o).heap.size:=fun o=>Nat.le_trans X.size AX
   have D:Hid (∀j u,[Value.int .u8 x][j]?=some u->(q.alloc (.cells #[.int .u8 x] 5)).cell? ((⟨q.heap.size,0,none⟩:Addr).add j)=some u):=Fq q _ _;have OA:Hid (∀o,(q.alloc o).ownsRow w.heap.size 5 1 (.slice oa a.length oc) a.length (a.map (.int .u8 ·))):=fun o=>BM E Ai
   have ab:a.length<=4096:=by have:=B.out;omega
   go_wp2_with(first|(at_builtin;refine wpList_append_own_at _ rfl _ _ 22 rfl w.heap.size 5 A _ 1 1 Tryz.underlying22 l.1 l.2.1 l.2.2.1 l.2.2.2 rfl Ad _ _ _ rfl (OA _) ⟨q.heap.size,0,none⟩ 1 1 [Value.int .u8 x] rfl rfl D ?c2 ?c3 ?c4 (F _) ?_))
   case c2=>simp[Value.oneCell']
   case c3=>unfold maxLen;omega
   case c4=>omega
   intro v' C s d _ _;have ba:Bw q (q.alloc (.cells #[.int .u8 x] 5)):=Ai;have F3:Hid (Fw p w C):=(X.trans (.of_below ba)).grown d (fun j L=>(E.lt j L).1);have C3:Hid (CJ C p r n b):=(C2.below ba).grown d (fun j L=>by have:=(E.lt j L).1;omega);have O3:Hid (C.ownsRow w.heap.size 5 1 v' (a++[x]).length ((a++[x]).map (.int .u8 ·))):=(by rw[List.length_append,List.map_append];exact s:C.ownsRow w.heap.size 5 1 v' (a++[x]).length ((a++[x]).map (.int .u8 ·)))
   go_wp2_with fail;go_roundw
   case rel=>exact⟨a++[x],by have:=B.out;simp;omega,by have:=B.out;simp;omega,fun y z=>by
    rcases List.mem_append.1 z with z|z
    ·exact HD y z
    ·have e:y=x:=by simpa using z
     rw[e];exact⟨x0,x1⟩,O3,F3,C3⟩
   case measure=>simp[intOf];omega
  ·go_wp2_with fail
   go_ret;exact⟨_,rfl,a,by have:=B.out;omega,HD,Z,Y,HU⟩
end Go.Proofs.YtcjnmdgomocpgaaGreatDoor
