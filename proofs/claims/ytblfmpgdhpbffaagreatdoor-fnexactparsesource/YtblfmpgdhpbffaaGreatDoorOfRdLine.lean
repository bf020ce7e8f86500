import Derived.Test.YtblfmpgdhpbffaaGreatDoorOfRdRL
import Derived.Test.YtblfmpgdhpbffaaGreatDoorAsmIns
set_option maxHeartbeats 6400000
set_option maxRecDepth 20000
namespace Go.Proofs.YtblfmpgdhpbffaaGreatDoor
open Go.RowKit
def placeO(b o:Nat)(c:UInt8):Value:=if c=68 then .pointer (some ⟨b,o+1,none⟩)else if c=65 then .pointer (some ⟨b,o+2,none⟩)else if c=66 then .pointer (some ⟨b,o+3,none⟩)else if c=73 then .pointer (some ⟨b,o+4,none⟩)else if c=78 then .pointer (some ⟨b,o+4,none⟩)else if c=72 then .pointer (some ⟨b,o+5,none⟩)else .pointer none
theorem fieldAt_at(b o:Nat)(c:UInt8)(w:World):
 Calls Tryz.prog 101 #[.pointer (some ⟨b,o,none⟩),.int .u8 (c.toNat:Int)] w fun e w'=>e=.returned (placeO b o c)/\w'=w:=by
 by_cases e68:c=68
 ·subst e68
  go_enter Tryz.func101,Tryz.ntmps101;go_wp2;go_ret;exact⟨rfl,rfl⟩
 have f68:((c.toNat:Int)==68)=false:=by rw[beq_eq_false_iff_ne];intro x;exact e68 (UInt8.toNat_inj.1 (show c.toNat=68 by omega))
 by_cases e65:c=65
 ·subst e65
  go_enter Tryz.func101,Tryz.ntmps101;go_wp2;go_ret;exact⟨rfl,rfl⟩
 have f65:((c.toNat:Int)==65)=false:=by rw[beq_eq_false_iff_ne];intro x;exact e65 (UInt8.toNat_inj.1 (show c.toNat=65 by omega))
 by_cases e66:c=66
 ·subst e66
  go_enter Tryz.func101,Tryz.ntmps101;go_wp2;go_ret;exact⟨rfl,rfl⟩
 have f66:((c.toNat:Int)==66)=false:=by rw[beq_eq_false_iff_ne];intro x;exact e66 (UInt8.toNat_inj.1 (show c.toNat=66 by omega))
 by_cases e73:c=73
 ·subst e73
  go_enter Tryz.func101,Tryz.ntmps101;go_wp2;go_ret;exact⟨rfl,rfl⟩
 have f73:((c.toNat:Int)==73)=false:=by rw[beq_eq_false_iff_ne];intro x;exact e73 (UInt8.toNat_inj.1 (show c.toNat=73 by omega))
 by_cases e78:c=78
 ·subst e78
  go_enter Tryz.func101,Tryz.ntmps101;go_wp2;go_ret;exact⟨rfl,rfl⟩
 have f78:((c.toNat:Int)==78)=false:=by rw[beq_eq_false_iff_ne];intro x;exact e78 (UInt8.toNat_inj.1 (show c.toNat=78 by omega))
 by_cases e72:c=72
 ·subst e72
  go_enter Tryz.func101,Tryz.ntmps101;go_wp2;go_ret;exact⟨rfl,rfl⟩
 have f72:((c.toNat:Int)==72)=false:=by rw[beq_eq_false_iff_ne];intro x;exact e72 (UInt8.toNat_inj.1 (show c.toNat=72 by omega))
 rw[placeO,if_neg e68,if_neg e65,if_neg e66,if_neg e73,if_neg e78,if_neg e72];clear e68 e65 e66 e73 e78 e72;go_enter Tryz.func101,Tryz.ntmps101;go_wp2;go_ret;exact⟨rfl,rfl⟩
def fin(lb:Bool)(r:Option NV):Option Row:=match r with|some y=>if lb=true∨canS y=true then some (lb,y)else none|none=>none
structure GotX(w:World)(p q:Nat)(lb:Bool)(x:NV)(v:World):Prop where
 bel:Below w.heap.size w v
 P:v.heap[p]?=some (.cells (lnA none) 120)
 X:v.heap[q]?=some (.cells (lnV (lb,x)).toArray 120)
theorem GotX.below{w v v':World}{p q:Nat}{lb:Bool}{x:NV}(h:GotX w p q lb x v)(hb:Below v.heap.size v v'):GotX w p q lb x v':=
 ⟨h.bel.trans (hb.mono h.bel.size),(hb.block p (Array.getElem?_eq_some_iff.1 h.P).1).trans h.P,(hb.block q (Array.getElem?_eq_some_iff.1 h.X).1).trans h.X⟩
theorem GotX.put{w v:World}{p q j:Nat}{lb lb':Bool}{x y:NV}{val:Value}(h:GotX w p q lb x v)(hq:w.heap.size<=q)(hne:p≠q)(hy:(lnV (lb,x)).toArray.setIfInBounds j val=(lnV (lb',y)).toArray):GotX w p q lb' y (v.setCell ⟨q,j,none⟩ val):=
 ⟨h.bel.setCell hq _,hp_other h.P hne _ _,by rw[hp_set h.X,hy]⟩
theorem GotX.sz{w v:World}{p q:Nat}{lb:Bool}{x:NV}(h:GotX w p q lb x v):p<v.heap.size/\q<v.heap.size:=⟨(Array.getElem?_eq_some_iff.1 h.P).1,(Array.getElem?_eq_some_iff.1 h.X).1⟩
structure LT(w:World)(b o cap:Nat)(l:List UInt8):Prop where
 A:At w b o l.length (numF .u8 (bF l))
 c:l.length<=cap
 n:(l.length:Int)<=1048576
theorem LT.drop{w:World}{b o cap:Nat}{l:List UInt8}(h:LT w b o cap l)(k o':Nat)(hk:k<=l.length)(ho:o'=o+k∨l.length-k=0):LT w b o' (cap-k) (l.drop k):=by
 have hc:=h.c;have hn:=h.n;refine⟨?_,by rw[List.length_drop];omega,by rw[List.length_drop];omega⟩;rcases ho with rfl|h0
 ·exact at_drop h.A k hk
 ·rw[List.length_drop,h0]
  exact⟨h.A.1,fun i hi=>absurd hi (Nat.not_lt_zero _)⟩
structure Frm(a:Act)(v4 v5 v6 v7 v9 v10:Value):Prop where
 d:a.defers=[]
 n:a.tmps.size=127
 h4:a.tmps[4]?=some v4
 h5:a.tmps[5]?=some v5
 h6:a.tmps[6]?=some v6
 h7:a.tmps[7]?=some v7
 h9:a.tmps[9]?=some v9
 h10:a.tmps[10]?=some v10
theorem Frm.open{a:Act}{v4 v5 v6 v7 v9 v10:Value}(h:Frm a v4 v5 v6 v7 v9 v10):∃u:Nat->Value,a=⟨#[u 0,u 1,u 2,u 3,v4,v5,v6,v7,u 8,v9,v10,u 11,u 12,u 13,u 14,u 15,u 16,u 17,u 18,u 19,u 20,u 21,u 22,u 23,u 24,u 25,u 26,u 27,u 28,u 29,u 30,u 31,u 32,u 33,u 34,u 35,u 36,u 37,u 38,u 39,u 40,u 41,u 42,u 43,u 44,u 45,u 46,u 47,u 48,u 49,u 50,u 51,u 52,u 53,u 54,u 55,u 56,u 57,u 58,u 59,u 60,u 61,u 62,u 63,u 64,u 65,u 66,u 67,u 68,u 69,u 70,u 71,u 72,u 73,u 74,u 75,u 76,u 77,u 78,u 79,u 80,u 81,u 82,u 83,u 84,u 85,u 86,u 87,u 88,u 89,u 90,u 91,u 92,u 93,u 94,u 95,u 96,u 97,u 98,u 99,u 100,u 101,u 102,u 103,u 104,u 105,u 106,u 107,u 108,u 109,u 110,u 111,u 112,u 113,u 114,u 115,u 116,u 117,u 118,u 119,u 120,u 121,u 122,u 123,u 124,u 125,u 126],[]⟩:=by
 obtain⟨⟨xs⟩,ds⟩:=a;obtain⟨hd,hn,h4,h5,h6,h7,h9,h10⟩:=h;simp only at hd hn h4 h5 h6 h7 h9 h10;subst hd;refine⟨fun i=>xs.getD i undef,?_⟩;have key:xs=(List.range 127).map fun i=>if i=4 then v4 else if i=5 then v5 else if i=6 then v6 else if i=7 then v7 else if i=9 then v9 else if i=10 then v10 else xs.getD i undef:=by
  refine List.ext_getElem? fun i=>?_
  have hl:xs.length=127:=hn;by_cases hi:i<127
  ·rw[List.getElem?_map,List.getElem?_range hi]
   simp only[Option.map_some];simp only[List.getElem?_toArray]at h4 h5 h6 h7 h9 h10;by_cases e4:i=4
   ·subst e4;rw[if_pos rfl];exact h4
   by_cases e5:i=5
   ·subst e5;rw[if_neg e4,if_pos rfl];exact h5
   by_cases e6:i=6
   ·subst e6;rw[if_neg e4,if_neg e5,if_pos rfl];exact h6
   by_cases e7:i=7
   ·subst e7;rw[if_neg e4,if_neg e5,if_neg e6,if_pos rfl];exact h7
   by_cases e9:i=9
   ·subst e9;rw[if_neg e4,if_neg e5,if_neg e6,if_neg e7,if_pos rfl];exact h9
   by_cases e10:i=10
   ·subst e10;rw[if_neg e4,if_neg e5,if_neg e6,if_neg e7,if_neg e9,if_pos rfl];exact h10
   rw[if_neg e4,if_neg e5,if_neg e6,if_neg e7,if_neg e9,if_neg e10,List.getD_eq_getElem?_getD,List.getElem?_eq_getElem (by omega)];rfl
  ·rw[List.getElem?_eq_none (by omega),List.getElem?_eq_none (by simp;omega)]
 have e2:(⟨⟨xs⟩,[]⟩:Act)=⟨⟨(List.range 127).map fun i=>if i=4 then v4 else if i=5 then v5 else if i=6 then v6 else if i=7 then v7 else if i=9 then v9 else if i=10 then v10 else xs.getD i undef⟩,[]⟩:=by rw[<-key]
 rw[e2];rfl
def rlF(f:Func):Code:=match f.body with|some (.seq _ (.scope c))=>c|_=>.skip
def rlG(f:Func)(l:Nat):Code:=(findLabel (rlF f) l).getD .skip
theorem wp_found{P:Program}{Q:Exit->Act->World->Prop}{a:Act}{w:World}{l:Nat}{c:Code}(h:findLabel (rlF Tryz.f62) l=some c)(hw:c.wp P Q a w):(rlG Tryz.f62 l).wp P Q a w:=by
 unfold rlG;rw[h];exact hw
def LJ(w:World)(p q b:Nat)(tot:Option Row):Nat->Act->World->Prop
 |0,a,v=>∃(v6 v7:Value)(lb:Bool)(x:NV)(o' cap':Nat)(l':List UInt8)(s:ByteArray),Frm a (.pointer (some ⟨p,0,none⟩)) (.pointer (some ⟨q,0,none⟩)) v6 v7 (.slice (some ⟨b,o',none⟩) l'.length cap') (.string s)/\LT w b o' cap' l'/\GotX w p q lb x v/\(∀c∈s.data.toList,c≠64)/\fin lb (fit s.data.toList l' x)=tot/\(s.size:Int)<=100
 |1,a,v=>∃(v6 v7 v9 v10:Value)(lb:Bool)(x:NV),Frm a (.pointer (some ⟨p,0,none⟩)) (.pointer (some ⟨q,0,none⟩)) v6 v7 v9 v10/\GotX w p q lb x v/\tot=none
 |2,a,v=>∃(v6 v7 v10:Value)(lb:Bool)(x:NV)(o' cap':Nat)(l':List UInt8),Frm a (.pointer (some ⟨p,0,none⟩)) (.pointer (some ⟨q,0,none⟩)) v6 v7 (.slice (some ⟨b,o',none⟩) l'.length cap') v10/\LT w b o' cap' l'/\GotX w p q lb x v/\fin lb (fit [] l' x)=tot
 |3,a,v=>∃(v6:Value)(c:UInt8)(lb:Bool)(x:NV)(o' cap':Nat)(l':List UInt8)(s:ByteArray),Frm a (.pointer (some ⟨p,0,none⟩)) (.pointer (some ⟨q,0,none⟩)) v6 (.int .u8 (c.toNat:Int)) (.slice (some ⟨b,o',none⟩) l'.length cap') (.string s)/\LT w b o' cap' l'/\GotX w p q lb x v/\(∀c∈s.data.toList,c≠64)/\isFd c=false/\fin lb (fit (c::s.data.toList) l' x)=tot/\(s.size:Int)<=100
 |4,a,v=>∃(v7:Value)(lb:Bool)(x:NV)(o' cap':Nat)(l':List UInt8)(s:ByteArray),Frm a (.pointer (some ⟨p,0,none⟩)) (.pointer (some ⟨q,0,none⟩)) (.pointer (some ⟨q,5,none⟩)) v7 (.slice (some ⟨b,o',none⟩) l'.length cap') (.string s)/\LT w b o' cap' l'/\GotX w p q lb x v/\(∀c∈s.data.toList,c≠64)/\l'.head?=some 45/\fin lb (fit (73::s.data.toList) l' x)=tot/\(s.size:Int)<=100
 |_,_,_=>False
def lw:Nat->Nat
 |0=>5
 |1=>1
 |2=>2
 |_=>8
def szS:Value->Nat
 |.string s=>s.size
 |_=>0
def muL(l:Nat)(a:Act)(_:World):Nat:=szS (a.tmps.getD 10 undef)*10+lw l
theorem set7{w v:World}{p:Nat}{cs:Array Value}{t:TypeId}(h:v.heap[p]?=some (.cells cs t))(hp:w.heap.size<=p)(hb:Below w.heap.size w v)(hc:cs.size=7)(x0 x1 x2 x3 x4 x5 x6:Value):
 (((((((v.setCell ⟨p,0,none⟩ x0).setCell ⟨p,1,none⟩ x1).setCell ⟨p,2,none⟩ x2).setCell ⟨p,3,none⟩ x3).setCell ⟨p,4,none⟩ x4).setCell ⟨p,5,none⟩ x5).setCell ⟨p,6,none⟩ x6).heap[p]?=some (.cells #[x0,x1,x2,x3,x4,x5,x6] t)/\
 Below w.heap.size w (((((((v.setCell ⟨p,0,none⟩ x0).setCell ⟨p,1,none⟩ x1).setCell ⟨p,2,none⟩ x2).setCell ⟨p,3,none⟩ x3).setCell ⟨p,4,none⟩ x4).setCell ⟨p,5,none⟩ x5).setCell ⟨p,6,none⟩ x6):=by
 obtain⟨xs⟩:=cs;obtain⟨y0,y1,y2,y3,y4,y5,y6,rfl⟩:∃y0 y1 y2 y3 y4 y5 y6,xs=[y0,y1,y2,y3,y4,y5,y6]:=by
  have hc:xs.length=7:=hc;match xs,hc with
  |[y0,y1,y2,y3,y4,y5,y6],_=>exact⟨y0,y1,y2,y3,y4,y5,y6,rfl⟩
 refine⟨?_,((((((hb.setCell hp _).setCell hp _).setCell hp _).setCell hp _).setCell hp _).setCell hp _).setCell hp _⟩;rw[hp_set (hp_set (hp_set (hp_set (hp_set (hp_set (hp_set h 0 x0) 1 x1) 2 x2) 3 x3) 4 x4) 5 x5) 6 x6];rfl
theorem pass1(w:World)(p q b:Nat)(tot:Option Row)(K:Exit->Act->World->Prop)(hp:w.heap.size<=p)(hQ:∀(a:Act)(v':World)v5 v6 v7 v9 v10,Frm a (.pointer (some ⟨p,0,none⟩)) v5 v6 v7 v9 v10->v'.heap[p]?=some (.cells (lnA tot) 120)->Below w.heap.size w v'->K .ret a v')(a:Act)(v:World)(h:LJ w p q b tot 1 a v):
 (rlG Tryz.f62 1).wp Tryz.prog K a v:=by
 obtain⟨v6,v7,v9,v10,lb,x,hF,hX,ht⟩:=h;have HX:Hid (GotX w p q lb x v):=hX;have HQ:Hid (∀(a:Act)(v':World)v5 v6 v7 v9 v10,Frm a (.pointer (some ⟨p,0,none⟩)) v5 v6 v7 v9 v10->v'.heap[p]?=some (.cells (lnA tot) 120)->Below w.heap.size w v'->K .ret a v'):=hQ;have HT:Hid (tot=none):=ht;have p0:=hp_cell hX.P 0;have p1:=hp_cell hX.P 1;have p2:=hp_cell hX.P 2;have p3:=hp_cell hX.P 3;have p4:=hp_cell hX.P 4;have p5:=hp_cell hX.P 5;have p6:=hp_cell hX.P 6;have pf:=hp_free hX.P;simp only[lnA,lnV,nv0,Option.getD_none,List.getElem?_toArray,List.getElem?_cons_zero,List.getElem?_cons_succ]at p0 p1 p2 p3 p4 p5 p6;clear hX hQ ht;obtain⟨u,rfl⟩:=hF.open;clear hF;refine wp_found (l:=1) (c:=?cc) ?hh ?ww
 case hh=>unfold rlF Tryz.f62;dsimp only;exact rfl
 go_wp2_with fail;have h7:=set7 HX.out.P hp HX.out.bel rfl (.bool false) (.int .i64 0) (.int .i64 0) (.int .i64 0) (.int .i64 0) (.int .i64 0) (.int .i64 0);exact HQ.out _ _ _ _ _ _ _ ⟨rfl,rfl,rfl,rfl,rfl,rfl,rfl,rfl⟩ (by rw[HT.out];exact h7.1) h7.2
theorem pass3(w:World)(p q b:Nat)(tot:Option Row)(K:Exit->Act->World->Prop)(a:Act)(v:World)(h:LJ w p q b tot 3 a v)(hK:∀l' a' v',LJ w p q b tot l' a' v'->muL l' a' v'<muL 3 a v->K (.goto l') a' v'):
 (rlG Tryz.f62 3).wp Tryz.prog K a v:=by
 obtain⟨v6,c,lb,x,o',cap',l',s,hF,hT,hX,h64,hfd,hfit,hsz⟩:=h;have HX:Hid (GotX w p q lb x v):=hX;have HT:Hid (LT w b o' cap' l'):=hT;have H64:Hid (∀c∈s.data.toList,c≠64):=h64;rw[fit_cons_lit c _ _ _ hfd]at hfit;have HB:Hid (Below w.heap.size w v):=hX.bel;have HK:Hid (∀l' a' v',LJ w p q b tot l' a' v'->muL l' a' v'<s.size*10+8->K (.goto l') a' v'):=(by
  intro l' a' v' h1 h2;refine hK l' a' v' h1 ?_;have e:muL 3 a v=s.size*10+8:=by
   unfold muL;rw[Array.getD_eq_getD_getElem?,hF.h10];rfl
  rw[e];exact h2:∀l' a' v',LJ w p q b tot l' a' v'->muL l' a' v'<s.size*10+8->K (.goto l') a' v')
 clear hX hT h64 hfd hK;obtain⟨u,rfl⟩:=hF.open;clear hF;refine wp_found (l:=3) (c:=?cc) ?hh ?ww
 case hh=>unfold rlF Tryz.f62;dsimp only;exact rfl
 cases l' with
 |nil=>
  have HR:Hid (tot=none):=(hfit.symm:tot=none)
  clear hfit;go_wp2_with fail;go_step3;refine HK.out 1 _ _ ⟨_,_,_,_,_,_,⟨rfl,rfl,rfl,rfl,rfl,rfl,rfl,rfl⟩,HX.out,HR.out⟩ ?_;show s.size*10+1<s.size*10+8;omega
 |cons r l''=>
  have hl0:(((l''.length:Int)+1)==0)=false:=by rw[beq_eq_false_iff_ne];omega
  have hl1:(0:Int)<(l''.length:Int)+1:=by omega
  have g0:v.cell? ⟨b,o',none⟩=some (.int .u8 (r.toNat:Int)):=by
   have:=at_byte HT.out.A (k:=0) (by simp);exact(HB.out.cell (p:=⟨b,o',none⟩) HT.out.A.1).trans this
  by_cases hrc:r=c
  ·have hne:((r.toNat:Int) !=(c.toNat:Int))=false:=by rw[hrc];simp
   have HR:Hid (fin lb (fit s.data.toList l'' x)=tot):=(by rw[<-hfit];simp only[hrc,if_true]:fin lb (fit s.data.toList l'' x)=tot)
   clear hfit hrc;have hcl:l''.length+1<=cap':=HT.out.c;have HCL:Hid (l''.length+1<=cap'):=hcl;by_cases hc1:cap'=1
   ·subst hc1
    clear hcl;go_wp2_with fail;go_step3;have hz:l''.length+1-1=0:=by have:=HCL.out;omega
    refine HK.out 0 _ _ ⟨_,_,lb,x,_,_,l'',s,⟨rfl,rfl,rfl,rfl,rfl,rfl,rfl,rfl⟩,HT.out.drop 1 o' (by simp) (.inr hz),HX.out,H64.out,HR.out,hsz⟩ ?_;show s.size*10+5<s.size*10+8;omega
   ·clear hcl
    go_wp2_with fail;go_step3;refine HK.out 0 _ _ ⟨_,_,lb,x,_,_,l'',s,⟨rfl,rfl,rfl,rfl,rfl,rfl,rfl,rfl⟩,HT.out.drop 1 (o'+1) (by simp) (.inl rfl),HX.out,H64.out,HR.out,hsz⟩ ?_;show s.size*10+5<s.size*10+8;omega
  ·have hne:((r.toNat:Int) !=(c.toNat:Int))=true:=by
    rw[bne_iff_ne];intro e;exact hrc (UInt8.toNat_inj.1 (by omega))
   have HR:Hid (tot=none):=(by rw[<-hfit];simp only[hrc,if_false];rfl:tot=none)
   clear hfit hrc;go_wp2_with fail;go_step3;refine HK.out 1 _ _ ⟨_,_,_,_,_,_,⟨rfl,rfl,rfl,rfl,rfl,rfl,rfl,rfl⟩,HX.out,HR.out⟩ ?_;show s.size*10+1<s.size*10+8;omega
theorem pass2(w:World)(p q b:Nat)(tot:Option Row)(K:Exit->Act->World->Prop)(hp:w.heap.size<=p)(hpq:p≠q)(hQ:∀(a:Act)(v':World)v5 v6 v7 v9 v10,Frm a (.pointer (some ⟨p,0,none⟩)) v5 v6 v7 v9 v10->v'.heap[p]?=some (.cells (lnA tot) 120)->Below w.heap.size w v'->K .ret a v')(a:Act)(v:World)(h:LJ w p q b tot 2 a v):
 (rlG Tryz.f62 2).wp Tryz.prog K a v:=by
 obtain⟨v6,v7,v10,lb,x,o',cap',l',hF,hT,hX,ht⟩:=h;have HX:Hid (GotX w p q lb x v):=hX;have HQ:Hid (∀(a:Act)(v':World)v5 v6 v7 v9 v10,Frm a (.pointer (some ⟨p,0,none⟩)) v5 v6 v7 v9 v10->v'.heap[p]?=some (.cells (lnA tot) 120)->Below w.heap.size w v'->K .ret a v'):=hQ;have hqp:q≠p:=fun e=>hpq e.symm
 have p0:=hp_cell hX.P 0;have p1:=hp_cell hX.P 1;have p2:=hp_cell hX.P 2;have p3:=hp_cell hX.P 3;have p4:=hp_cell hX.P 4;have p5:=hp_cell hX.P 5;have p6:=hp_cell hX.P 6;have pf:=hp_free hX.P;have q0:=hp_cell hX.X 0;have q1:=hp_cell hX.X 1;have q2:=hp_cell hX.X 2;have q3:=hp_cell hX.X 3;have q4:=hp_cell hX.X 4;have q5:=hp_cell hX.X 5;have q6:=hp_cell hX.X 6;have qf:=hp_free hX.X;simp only[lnA,lnV,nv0,Option.getD_none,List.getElem?_toArray,List.getElem?_cons_zero,List.getElem?_cons_succ]at p0 p1 p2 p3 p4 p5 p6 q0 q1 q2 q3 q4 q5 q6;clear hX hQ hT;obtain⟨u,rfl⟩:=hF.open;clear hF;refine wp_found (l:=2) (c:=?cc) ?hh ?ww
 case hh=>unfold rlF Tryz.f62;dsimp only;exact rfl
 cases l' with
 |cons r l''=>
  have HR:Hid (tot=none):=(ht.symm:tot=none)
  clear ht;have hl0:(((l''.length:Int)+1)==0)=false:=by rw[beq_eq_false_iff_ne];omega
  go_wp2_with fail;go_step3;go_wp2_with fail;have h7:=set7 HX.out.P hp HX.out.bel rfl (.bool false) (.int .i64 0) (.int .i64 0) (.int .i64 0) (.int .i64 0) (.int .i64 0) (.int .i64 0);exact HQ.out _ _ _ _ _ _ _ ⟨rfl,rfl,rfl,rfl,rfl,rfl,rfl,rfl⟩ (by rw[HR.out];exact h7.1) h7.2
 |nil=>
  cases lb with
  |true=>
   have HR:Hid (tot=some (true,x)):=(ht.symm:tot=some (true,x))
   clear ht;go_wp2_with fail;have h7:=set7 HX.out.P hp HX.out.bel rfl (.bool true) (.int .i64 x.op) (.int .i64 x.d) (.int .i64 x.a) (.int .i64 x.b) (.int .i64 x.imm) (.int .i64 x.h);exact HQ.out _ _ _ _ _ _ _ ⟨rfl,rfl,rfl,rfl,rfl,rfl,rfl,rfl⟩ (by rw[HR.out];exact h7.1) h7.2
  |false=>
   have HR0:Hid (tot=if canS x=true then some (false,x)else none):=(by
    rw[<-ht];show(if false=true∨canS x=true then some (false,x)else none)=_;simp:tot=if canS x=true then some (false,x)else none)
   clear ht;go_wp2_with fail;refine(canStand_any x v).mono ?_;rintro e w2⟨rfl,hb2⟩;have HX2:Hid (GotX w p q false x w2):=HX.out.below hb2;have hX:=HX2.out;clear hb2 p0 p1 p2 p3 p4 p5 p6 q0 q1 q2 q3 q4 q5 q6 pf qf;have p0:=hp_cell hX.P 0;have p1:=hp_cell hX.P 1;have p2:=hp_cell hX.P 2;have p3:=hp_cell hX.P 3;have p4:=hp_cell hX.P 4;have p5:=hp_cell hX.P 5;have p6:=hp_cell hX.P 6;have pf:=hp_free hX.P;have q0:=hp_cell hX.X 0;have q1:=hp_cell hX.X 1;have q2:=hp_cell hX.X 2;have q3:=hp_cell hX.X 3;have q4:=hp_cell hX.X 4;have q5:=hp_cell hX.X 5;have q6:=hp_cell hX.X 6;have qf:=hp_free hX.X;simp only[lnA,lnV,nv0,Option.getD_none,List.getElem?_toArray,List.getElem?_cons_zero,List.getElem?_cons_succ]at p0 p1 p2 p3 p4 p5 p6 q0 q1 q2 q3 q4 q5 q6;clear hX;obtain⟨cs,hcs⟩:∃b,canS x=b:=⟨_,rfl⟩
   have HCS:Hid (canS x=cs):=hcs;rw[hcs];clear hcs;cases cs with
   |true=>
    have HR:Hid (tot=some (false,x)):=(by rw[HR0.out,if_pos HCS.out]:tot=some (false,x))
    go_wp2_with fail;have h7:=set7 HX2.out.P hp HX2.out.bel rfl (.bool false) (.int .i64 x.op) (.int .i64 x.d) (.int .i64 x.a) (.int .i64 x.b) (.int .i64 x.imm) (.int .i64 x.h);exact HQ.out _ _ _ _ _ _ _ ⟨rfl,rfl,rfl,rfl,rfl,rfl,rfl,rfl⟩ (by rw[HR.out];exact h7.1) h7.2
   |false=>
    have HR:Hid (tot=none):=(by rw[HR0.out,if_neg (by rw[HCS.out];simp)]:tot=none)
    go_wp2_with fail;go_step3;go_wp2_with fail;have h7:=set7 HX2.out.P hp HX2.out.bel rfl (.bool false) (.int .i64 0) (.int .i64 0) (.int .i64 0) (.int .i64 0) (.int .i64 0) (.int .i64 0);exact HQ.out _ _ _ _ _ _ _ ⟨rfl,rfl,rfl,rfl,rfl,rfl,rfl,rfl⟩ (by rw[HR.out];exact h7.1) h7.2
def TkP(w:World)(p q b:Nat)(lb:Bool)(x:NV)(c:UInt8)(cap:Nat)(l:List UInt8)(v9 v8:Value)(wx:World):Prop:=
 match numAt l with
 |some (vv,n)=>∃o3,v9=.slice (some ⟨b,o3,none⟩) (l.drop n).length (cap-n)/\v8=.bool true/\LT w b o3 (cap-n) (l.drop n)/\GotX w p q lb (setF x c vv) wx
 |none=>v8=.bool false/\GotX w p q lb (setF x c 0) wx
theorem pass4(w:World)(p q b:Nat)(tot:Option Row)(K:Exit->Act->World->Prop)(hq:w.heap.size<=q)(hpq:p≠q)(a:Act)(v:World)(h:LJ w p q b tot 4 a v)(hK:∀l' a' v',LJ w p q b tot l' a' v'->muL l' a' v'<muL 4 a v->K (.goto l') a' v'):
 (rlG Tryz.f62 4).wp Tryz.prog K a v:=by
 obtain⟨v7,lb,x,o',cap',l',s,hF,hT,hX,h64,hhd,hfit,hsz⟩:=h;have HX:Hid (GotX w p q lb x v):=hX;have HT:Hid (LT w b o' cap' l'):=hT;have H64:Hid (∀c∈s.data.toList,c≠64):=h64;have HB:Hid (Below w.heap.size w v):=hX.bel;have HPQ:Hid (p≠q):=hpq;have HK:Hid (∀l' a' v',LJ w p q b tot l' a' v'->muL l' a' v'<s.size*10+8->K (.goto l') a' v'):=(by
  intro l' a' v' h1 h2;refine hK l' a' v' h1 ?_;have e:muL 4 a v=s.size*10+8:=by
   unfold muL;rw[Array.getD_eq_getD_getElem?,hF.h10];rfl
  rw[e];exact h2:∀l' a' v',LJ w p q b tot l' a' v'->muL l' a' v'<s.size*10+8->K (.goto l') a' v')
 clear hX hT h64 hK hpq;obtain⟨u,rfl⟩:=hF.open;clear hF;refine wp_found (l:=4) (c:=?cc) ?hh ?ww
 case hh=>unfold rlF Tryz.f62;dsimp only;exact rfl
 obtain⟨l'',rfl⟩:∃l'',l'=45::l'':=by
  cases l' with
  |nil=>cases hhd
  |cons r l''=>exact⟨l'',by simpa using hhd⟩
 have HF:Hid (fin lb (match numAt l'' with|some (vv,n)=>if vv=0 then none else fit s.data.toList (l''.drop n) (setF x 73 (-vv))|none=>none)=tot):=(by
  rw[<-hfit];show _=fin lb (if isFd 73=true then(match numS ((73:UInt8)==73) (45::l'')with|some (vv,n)=>fit s.data.toList ((45::l'').drop n) (setF x 73 vv)|none=>none)else _);rw[if_pos (show isFd 73=true from rfl)];have e:numS ((73:UInt8)==73) (45::l'')=match numAt l'' with|some (vv,n)=>if vv=0 then none else some (-vv,n+1)|none=>none:=by
   unfold numS;rw[if_pos ⟨rfl,rfl⟩];rfl
  rw[e];rcases numAt l'' with _|⟨vv,n⟩
  ·rfl
  ·simp only
   split
   ·rfl
   ·rfl:fin lb (match numAt l'' with|some (vv,n)=>if vv=0 then none else fit s.data.toList (l''.drop n) (setF x 73 (-vv))|none=>none)=tot)
 have HCL:Hid (l''.length+1<=cap'):=HT.out.c;clear hfit hhd;have hl1:(1:Int)<=(l''.length:Int)+1:=by omega
 have hl2:(1:Int)<=cap':=by have:=HCL.out;omega
 go_upto_region 18 with fail;go_cut [9,6,8]from 78 to 86(fun v9 v6 v8 wx=>v6=.pointer (some ⟨q,5,none⟩)/\TkP w p q b lb x 73 (cap'-1) l'' v9 v8 wx)
 case first=>
  by_cases h1:cap'=1
  ·subst h1
   have HT2:Hid (LT w b o' (1-1) l''):=HT.out.drop 1 o' (by simp) (.inr (by have:=HCL.out;show l''.length+1-1=0;omega));go_wp2_with fail;refine(takeNumber_any b o' (1-1) l'' v HT2.out.n HT2.out.c (HT2.out.A.below HB.out HT2.out.A.1)).mono ?_;rintro e w2⟨hr,hb2⟩;have HX2:Hid (GotX w p q lb x w2):=HX.out.below hb2;have q5:w2.cell? ⟨q,5,none⟩=some (.int .i64 x.imm):=hp_cell HX2.out.X 5;have qf:w2.frozen? ⟨q,5,none⟩=false:=hp_free HX2.out.X 5;clear hb2 HX HB;rcases hn:numAt l'' with _|⟨vv,n⟩
   ·rw[hn]at hr
    have hr:e=.returned (.tuple #[.int .i64 0,_,.bool false]):=hr;subst hr;have HN:Hid (numAt l''=none):=hn;clear hn;go_wp2_with fail;go_meet;refine⟨rfl,?_⟩;unfold TkP;rw[HN.out];exact⟨rfl,HX2.out.put hq HPQ.out rfl⟩
   ·rw[hn]at hr
    obtain⟨o3,rfl,ho3⟩:=hr;have HO3:Hid (o3=o'+n∨l''.length-n=0):=ho3;have HN:Hid (numAt l''=some (vv,n)):=hn;clear hn ho3;go_wp2_with fail;go_meet;refine⟨rfl,?_⟩;unfold TkP;rw[HN.out];exact⟨o3,by simp[List.length_drop],rfl,HT2.out.drop n o3 (num_bound HN.out).2.2.2.2.1 HO3.out,HX2.out.put hq HPQ.out rfl⟩
  ·have HT2:Hid (LT w b (o'+1) (cap'-1) l''):=HT.out.drop 1 (o'+1) (by simp) (.inl rfl)
   go_wp2_with fail;refine(takeNumber_any b (o'+1) (cap'-1) l'' v HT2.out.n HT2.out.c (HT2.out.A.below HB.out HT2.out.A.1)).mono ?_;rintro e w2⟨hr,hb2⟩;have HX2:Hid (GotX w p q lb x w2):=HX.out.below hb2;have q5:w2.cell? ⟨q,5,none⟩=some (.int .i64 x.imm):=hp_cell HX2.out.X 5;have qf:w2.frozen? ⟨q,5,none⟩=false:=hp_free HX2.out.X 5;clear hb2 HX HB;rcases hn:numAt l'' with _|⟨vv,n⟩
   ·rw[hn]at hr
    have hr:e=.returned (.tuple #[.int .i64 0,_,.bool false]):=hr;subst hr;have HN:Hid (numAt l''=none):=hn;clear hn;go_wp2_with fail;go_meet;refine⟨rfl,?_⟩;unfold TkP;rw[HN.out];exact⟨rfl,HX2.out.put hq HPQ.out rfl⟩
   ·rw[hn]at hr
    obtain⟨o3,rfl,ho3⟩:=hr;have HO3:Hid (o3=(o'+1)+n∨l''.length-n=0):=ho3;have HN:Hid (numAt l''=some (vv,n)):=hn;clear hn ho3;go_wp2_with fail;go_meet;refine⟨rfl,?_⟩;unfold TkP;rw[HN.out];exact⟨o3,by simp[List.length_drop],rfl,HT2.out.drop n o3 (num_bound HN.out).2.2.2.2.1 HO3.out,HX2.out.put hq HPQ.out rfl⟩
 case rest=>
  obtain⟨rfl,htk⟩:=hcut;clear HX HB;unfold TkP at htk;rcases hn:numAt l'' with _|⟨vv,n⟩
  ·rw[hn]at htk
   obtain⟨rfl,hX⟩:=htk;have HX:Hid (GotX w p q lb (setF x 73 0) wc):=hX;have HR:Hid (tot=none):=(by rw[<-HF.out,hn];rfl:tot=none)
   clear hX hn;go_wp2_with fail;go_step3;refine HK.out 1 _ _ ⟨_,_,_,_,_,_,⟨rfl,rfl,rfl,rfl,rfl,rfl,rfl,rfl⟩,HX.out,HR.out⟩ ?_;show s.size*10+1<s.size*10+8;omega
  ·rw[hn]at htk
   obtain⟨o3,rfl,rfl,hT3,hX⟩:=htk;have HX:Hid (GotX w p q lb (setF x 73 vv) wc):=hX;have HT3:Hid (LT w b o3 (cap'-1-n) (l''.drop n)):=hT3;have hvb:=num_bound hn;have hv1:0<=vv:=hvb.1;have hv2:vv<1000000000:=hvb.2.1;have HR0:Hid (fin lb (if vv=0 then none else fit s.data.toList (l''.drop n) (setF x 73 (-vv)))=tot):=(by rw[<-HF.out,hn]:fin lb (if vv=0 then none else fit s.data.toList (l''.drop n) (setF x 73 (-vv)))=tot)
   have q5:wc.cell? ⟨q,5,none⟩=some (.int .i64 vv):=hp_cell hX.X 5;have qf:wc.frozen? ⟨q,5,none⟩=false:=hp_free hX.X 5;have w1:IntKind.i64.wrap (-vv)= -vv:=by rw[IntKind.wrap_i64];omega
   clear hX hT3 hn hvb HF;by_cases hv0:vv=0
   ·subst hv0
    have HR:Hid (tot=none):=(by rw[<-HR0.out];rfl:tot=none)
    go_wp2_with fail;go_step3;refine HK.out 1 _ _ ⟨_,_,_,_,_,_,⟨rfl,rfl,rfl,rfl,rfl,rfl,rfl,rfl⟩,HX.out,HR.out⟩ ?_;show s.size*10+1<s.size*10+8;omega
   ·have hv3:(vv==0)=false:=by rw[beq_eq_false_iff_ne];exact hv0
    have HR:Hid (fin lb (fit s.data.toList (l''.drop n) (setF x 73 (-vv)))=tot):=(by rw[<-HR0.out,if_neg hv0]:fin lb (fit s.data.toList (l''.drop n) (setF x 73 (-vv)))=tot)
    clear hv0;go_wp2_with fail;go_step3;refine HK.out 0 _ _ ⟨_,_,lb,setF x 73 (-vv),_,_,l''.drop n,s,⟨rfl,rfl,rfl,rfl,rfl,rfl,rfl,rfl⟩,HT3.out,HX.out.put hq HPQ.out rfl,H64.out,HR.out,hsz⟩ ?_;show s.size*10+5<s.size*10+8;omega
def fo(c:UInt8):Nat:=if c=68 then 2 else if c=65 then 3 else if c=66 then 4 else if c=72 then 6 else 5
theorem place_fd{c:UInt8}(h:isFd c=true)(hn:c≠64)(q:Nat)(lb:Bool)(x:NV):placeO q 1 c=.pointer (some ⟨q,fo c,none⟩)/\(∃z,(lnV (lb,x)).toArray[fo c]?=some z)/\∀v:Int,(lnV (lb,x)).toArray.setIfInBounds (fo c) (.int .i64 v)=(lnV (lb,setF x c v)).toArray:=by
 unfold isFd at h;simp only[Bool.or_eq_true,beq_iff_eq]at h;rcases h with(((((rfl|rfl)|rfl)|rfl)|rfl)|rfl)|rfl;all_goals first|exact absurd rfl hn|exact⟨rfl,⟨_,rfl⟩,fun _=>rfl⟩
theorem place_no{c:UInt8}(h:isFd c=false)(q:Nat):placeO q 1 c=.pointer none:=by
 unfold isFd at h;simp only[Bool.or_eq_false_iff,beq_eq_false_iff_ne]at h;obtain⟨⟨⟨⟨⟨⟨h1,h2⟩,h3⟩,h4⟩,h5⟩,h6⟩,_⟩:=h;unfold placeO;rw[if_neg h3,if_neg h1,if_neg h2,if_neg h5,if_neg h6,if_neg h4]
theorem fit_fd(c:UInt8)(ps l:List UInt8)(x:NV)(h:isFd c=true)(hm:¬(c=73/\l.head?=some 45)):fit (c::ps) l x=match numAt l with|some (vv,n)=>fit ps (l.drop n) (setF x c vv)|none=>none:=by
 show(if isFd c=true then(match numS (c==73) l with|some (vv,n)=>fit ps (l.drop n) (setF x c vv)|none=>none)else _)=_;rw[if_pos h];have e:numS (c==73) l=numAt l:=by
  unfold numS;rw[if_neg];rintro⟨h1,h2⟩;refine hm ⟨by simpa using h1,?_⟩;cases l with
  |nil=>cases h2
  |cons r l=>
   simp only[List.head?_cons,Option.map_some,Option.some.injEq]at h2⊢;exact UInt8.toNat_inj.1 h2
 rw[e]
def rlH(f:Func):Code:=match findLabel (rlF f) 0 with|some (.seq _ y)=>y|_=>.skip
theorem wp_foundR{P:Program}{Q:Exit->Act->World->Prop}{a:Act}{w:World}{y:Code}(h:findLabel (rlF Tryz.f62) 0=some (.seq .skip y))(hw:y.wp P Q a w):(rlH Tryz.f62).wp P Q a w:=by
 unfold rlH;rw[h];exact hw
theorem wp_of_eq{P:Program}{Q:Exit->Act->World->Prop}{a:Act}{w:World}{c c':Code}(h:c'=c)(hw:c.wp P Q a w):c'.wp P Q a w:=by
 rw[h];exact hw
theorem pass0R(w:World)(p q b:Nat)(tot:Option Row)(K:Exit->Act->World->Prop)(hq:w.heap.size<=q)(hpq:p≠q)(a:Act)(v:World)(h:LJ w p q b tot 0 a v)(hK:∀l' a' v',LJ w p q b tot l' a' v'->muL l' a' v'<muL 0 a v->K (.goto l') a' v'):
 (rlH Tryz.f62).wp Tryz.prog K a v:=by
 obtain⟨v6,v7,lb,x,o',cap',l',s,hF,hT,hX,h64,hfit,hsz⟩:=h;have HX:Hid (GotX w p q lb x v):=hX;have HT:Hid (LT w b o' cap' l'):=hT;have H64:Hid (∀c∈s.data.toList,c≠64):=h64;have HB:Hid (Below w.heap.size w v):=hX.bel;have HPQ:Hid (p≠q):=hpq;have HK:Hid (∀l' a' v',LJ w p q b tot l' a' v'->muL l' a' v'<s.size*10+5->K (.goto l') a' v'):=(by
  intro l' a' v' h1 h2;refine hK l' a' v' h1 ?_;have e:muL 0 a v=s.size*10+5:=by
   unfold muL;rw[Array.getD_eq_getD_getElem?,hF.h10];rfl
  rw[e];exact h2:∀l' a' v',LJ w p q b tot l' a' v'->muL l' a' v'<s.size*10+5->K (.goto l') a' v')
 clear hX hT h64 hK hpq;obtain⟨u,rfl⟩:=hF.open;clear hF;refine wp_foundR (y:=?cc) ?hh ?ww
 case hh=>unfold rlF Tryz.f62;dsimp only;exact rfl
 have HF:Hid (fin lb (fit s.data.toList l' x)=tot):=hfit;clear hfit;by_cases hs:s=⟨#[]⟩
 ·subst hs
  go_wp2_with fail;go_step3;refine HK.out 2 _ _ ⟨_,_,_,_,_,_,_,_,⟨rfl,rfl,rfl,rfl,rfl,rfl,rfl,rfl⟩,HT.out,HX.out,HF.out⟩ ?_;show 0*10+2<0*10+5;omega
 have HS:Hid (¬s=⟨#[]⟩):=hs;have hs1:(0:Int)<s.size:=by
  have:s.size≠0:=fun e=>hs (ByteArray.size_eq_zero_iff.1 e)
  omega
 have hs2:s.toList.isEmpty=false:=by
  rw[empty_list];cases hl:s.data.toList with
  |nil=>exact absurd (by obtain⟨⟨l⟩⟩:=s;cases hl;rfl) hs
  |cons c l=>rfl
 clear hs;have hs3:0<s.size:=by omega
 obtain⟨c,hc⟩:∃c,s[0]=c:=⟨_,rfl⟩
 have hcc:∀h,s[0]'h=c:=fun _=>hc
 obtain⟨s',HS'⟩:∃s',Hid (s.extract 1 s.size=s'):=⟨_,(rfl:s.extract 1 s.size=s.extract 1 s.size)⟩
 have HDK:Hid (s.data.toList=c::s'.data.toList):=(by
  rw[<-HS'.out,ext_drop];have h1:=List.drop_eq_getElem_cons (l:=s.data.toList) (i:=0) (by simpa using hs3);rw[List.drop_zero]at h1;rw[h1];congr 1:s.data.toList=c::s'.data.toList)
 clear hc;go_upto_region 12 with fail;go_quiet(fail);go_wp2_with fail;have HX1:Hid (GotX w p q lb x (v.drewN nq)):=HX.out.below (below_drewN (Below.refl _ _) _);have HZ:Hid (s'.size+1=s.size):=(by
  have:=congrArg List.length HDK.out;simp at this;omega:s'.size+1=s.size)
 have H64':Hid (∀c∈s'.data.toList,c≠64):=fun c' h'=>H64.out c' (by rw[HDK.out];simp[h'])
 have hc64:Hid (c≠64):=H64.out c (by rw[HDK.out];simp);have HF':Hid (fin lb (fit (c::s'.data.toList) l' x)=tot):=(by rw[<-HDK.out];exact HF.out:fin lb (fit (c::s'.data.toList) l' x)=tot)
 have HK':Hid (∀l' a' v',LJ w p q b tot l' a' v'->muL l' a' v'<s'.size*10+15->K (.goto l') a' v'):=(fun l' a' v' h1 h2=>HK.out l' a' v' h1 (by have:=HZ.out;omega):∀l' a' v',LJ w p q b tot l' a' v'->muL l' a' v'<s'.size*10+15->K (.goto l') a' v')
 have hsz':(s'.size:Int)<=100:=by have:=HZ.out;omega
 obtain⟨v1,hv1⟩:∃z,v.drewN nq=z:=⟨_,rfl⟩
 rw[HS'.out,hv1];rw[hv1]at HX1;clear hv1 HX HB HF HK H64 HDK HZ HS' HS hs2 hs3 hcc hsz hs1;refine(fieldAt_at q 1 c v1).mono ?_;rintro e w1⟨rfl,hw1⟩;rw[hw1];clear hw1;cases hfd:isFd c with
 |false=>
  rw[place_no hfd];have HFD:Hid (isFd c=false):=hfd;clear hfd;go_wp2_with fail;go_step3;refine HK'.out 3 _ _ ⟨_,c,lb,x,_,_,l',s',⟨rfl,rfl,rfl,rfl,rfl,rfl,rfl,rfl⟩,HT.out,HX1.out,H64'.out,HFD.out,HF'.out,hsz'⟩ ?_;show s'.size*10+8<s'.size*10+15;omega
 |true=>
  obtain⟨hpl,⟨z,hz⟩,hset⟩:=place_fd hfd hc64.out q lb x;rw[hpl];have HFD:Hid (isFd c=true):=hfd;obtain⟨j,hj⟩:∃j,fo c=j:=⟨_,rfl⟩
  rw[hj];rw[hj]at hz hset;have HJ:Hid (fo c=j):=hj;have HSET:Hid (∀v:Int,(lnV (lb,x)).toArray.setIfInBounds j (.int .i64 v)=(lnV (lb,setF x c v)).toArray):=hset;have HZZ:Hid ((lnV (lb,x)).toArray[j]?=some z):=hz;obtain⟨m,hm⟩:∃m,decide (c=73/\l'.head?=some 45)=m:=⟨_,rfl⟩
  have HM:Hid (decide (c=73/\l'.head?=some 45)=m):=hm;clear hm hj hset hz hpl hfd;go_upto_region 15 with fail;go_cut [7,67]from 55 to 66(fun v7 bv wx=>wx=v1/\v7=.int .u8 (c.toNat:Int)/\bv=.bool m)
  case first=>
   by_cases h73:c=73
   ·subst h73
    cases l' with
    |nil=>
     have e:Hid (false=m):=(by rw[<-HM.out];simp:false=m)
     go_wp2_with fail;go_meet;exact⟨rfl,rfl,congrArg Value.bool e.out⟩
    |cons r l''=>
     have g0:v1.cell? ⟨b,o',none⟩=some (.int .u8 (r.toNat:Int)):=by
      have:=at_byte HT.out.A (k:=0) (by simp);exact(HX1.out.bel.cell (p:=⟨b,o',none⟩) HT.out.A.1).trans this
     have hl1:(0:Int)<(l''.length:Int)+1:=by omega
     by_cases hr:r=45
     ·subst hr
      have e:Hid (true=m):=(by rw[<-HM.out];simp:true=m)
      go_wp2_with fail;go_meet;exact⟨rfl,rfl,congrArg Value.bool e.out⟩
     ·have e:Hid (false=m):=(by rw[<-HM.out];simp[hr]:false=m)
      have k45:((r.toNat:Int)==45)=false:=u8_ne (n:=45) (by omega) hr;clear hr;go_wp2_with fail;go_meet;exact⟨rfl,rfl,congrArg Value.bool e.out⟩
   ·have e:Hid (false=m):=(by rw[<-HM.out];simp[h73]:false=m)
    have k73:((c.toNat:Int)==73)=false:=u8_ne (n:=73) (by omega) h73;clear h73;go_wp2_with fail;go_meet;exact⟨rfl,rfl,congrArg Value.bool e.out⟩
  case rest=>
  obtain⟨hw,rfl,rfl⟩:=hcut;rw[hw];clear hw;cases m with
  |true=>
   have hm:c=73/\l'.head?=some 45:=by simpa using HM.out
   have hj5:j=5:=by rw[<-HJ.out,hm.1];rfl
   rw[hj5];have HM2:Hid (c=73/\l'.head?=some 45):=hm;clear hm hj5;go_wp2_with fail;go_step3;refine HK'.out 4 _ _ ⟨_,lb,x,_,_,l',s',⟨rfl,rfl,rfl,rfl,rfl,rfl,rfl,rfl⟩,HT.out,HX1.out,H64'.out,HM2.out.2,by rw[<-HF'.out,HM2.out.1],hsz'⟩ ?_;show s'.size*10+8<s'.size*10+15;omega
  |false=>
   have hnm:¬(c=73/\l'.head?=some 45):=by simpa using HM.out
   have HF2:Hid (fin lb (match numAt l' with|some (vv,n)=>fit s'.data.toList (l'.drop n) (setF x c vv)|none=>none)=tot):=(by rw[<-HF'.out,fit_fd c _ _ _ HFD.out hnm]:fin lb (match numAt l' with|some (vv,n)=>fit s'.data.toList (l'.drop n) (setF x c vv)|none=>none)=tot)
   clear hnm;go_wp2_with fail;refine(takeNumber_any b o' cap' l' v1 HT.out.n HT.out.c (HT.out.A.below HX1.out.bel HT.out.A.1)).mono ?_;rintro e w2⟨hr,hb2⟩;have HX2:Hid (GotX w p q lb x w2):=HX1.out.below hb2;have qj:w2.cell? ⟨q,j,none⟩=some z:=(hp_cell HX2.out.X j).trans HZZ.out;have qf:w2.frozen? ⟨q,j,none⟩=false:=hp_free HX2.out.X j;clear hb2 HX1;rcases hn:numAt l' with _|⟨vv,n⟩
   ·rw[hn]at hr
    have hr:e=.returned (.tuple #[.int .i64 0,_,.bool false]):=hr;subst hr;have HR:Hid (tot=none):=(by rw[<-HF2.out,hn];rfl:tot=none)
    clear hn HF2;go_wp2_with fail;go_step3;refine HK'.out 1 _ _ ⟨_,_,_,_,lb,setF x c 0,⟨rfl,rfl,rfl,rfl,rfl,rfl,rfl,rfl⟩,HX2.out.put hq HPQ.out (HSET.out 0),HR.out⟩ ?_;show s'.size*10+1<s'.size*10+15;omega
   ·rw[hn]at hr
    obtain⟨o3,rfl,ho3⟩:=hr;have HT3:Hid (LT w b o3 (cap'-n) (l'.drop n)):=HT.out.drop n o3 (num_bound hn).2.2.2.2.1 ho3;have HR:Hid (fin lb (fit s'.data.toList (l'.drop n) (setF x c vv))=tot):=(by rw[<-HF2.out,hn]:fin lb (fit s'.data.toList (l'.drop n) (setF x c vv))=tot)
    clear hn ho3 HF2;rw[show l'.length-n=(l'.drop n).length from(List.length_drop ..).symm];go_wp2_with fail;go_step3;refine HK'.out 0 _ _ ⟨_,_,lb,setF x c vv,_,_,l'.drop n,s',⟨rfl,rfl,rfl,rfl,rfl,rfl,by simp[List.length_drop],rfl⟩,HT3.out,HX2.out.put hq HPQ.out (HSET.out vv),H64'.out,HR.out,hsz'⟩ ?_;show s'.size*10+5<s'.size*10+15;omega
theorem pass0(w:World)(p q b:Nat)(tot:Option Row)(K:Exit->Act->World->Prop)(hq:w.heap.size<=q)(hpq:p≠q)(a:Act)(v:World)(h:LJ w p q b tot 0 a v)(hK:∀l' a' v',LJ w p q b tot l' a' v'->muL l' a' v'<muL 0 a v->K (.goto l') a' v'):
 (rlG Tryz.f62 0).wp Tryz.prog K a v:=by
 refine wp_found (l:=0) (c:=?cc) ?hh ?ww
 case hh=>unfold rlF Tryz.f62;dsimp only;exact rfl
 refine wp_seq (wp_skip ?_);refine wp_of_eq (c:=(rlH Tryz.f62)) ?_ (pass0R w p q b tot K hq hpq a v h hK);unfold rlH rlF Tryz.f62;dsimp only;rfl
theorem pt_64(d op:Int)(hd:d=0∨d=1)(h1:1<=op)(h2:op<=34):(∀c∈(ptS d (shpI op)).data.toList,c≠64)/\((ptS d (shpI op)).size:Int)<=100:=by
 obtain rfl|rfl|rfl|rfl|rfl|rfl|rfl|rfl|rfl|rfl|rfl|rfl|rfl|rfl|rfl|rfl|rfl|rfl|rfl|rfl|rfl|rfl|rfl|rfl|rfl|rfl|rfl|rfl|rfl|rfl|rfl|rfl|rfl|rfl:op=1∨op=2∨op=3∨op=4∨op=5∨op=6∨op=7∨op=8∨op=9∨op=10∨op=11∨op=12∨op=13∨op=14∨op=15∨op=16∨op=17∨op=18∨op=19∨op=20∨op=21∨op=22∨op=23∨op=24∨op=25∨op=26∨op=27∨op=28∨op=29∨op=30∨op=31∨op=32∨op=33∨op=34:=by omega
 all_goals(rcases hd with rfl|rfl<;>exact⟨by decide,by decide⟩)
theorem pt_lab(d:Int)(hd:d=0∨d=1):(∀c∈(ptS d 64).data.toList,c≠64)/\((ptS d 64).size:Int)<=100/\0<(ptS d 64).size/\∀h,(ptS d 64)[0]'h=lbC d:=by
 rcases hd with rfl|rfl<;>exact⟨by decide,by decide,by decide,fun _=>rfl⟩
theorem fin_lab(d:Int)(hd:d=0∨d=1)(l:List UInt8)(h:l.head?=some (lbC d)):fin true (fit (ptS d 64).data.toList l nv0)=rdLine d l:=by
 unfold rdLine;rw[label_ins hd h];show fin true (fit (ptL d 64) l nv0)=_;cases fit (ptL d 64) l nv0<;>rfl
theorem fin_ins(d:Int)(hd:d=0∨d=1)(l:List UInt8)(h:l.head?≠some (lbC d)):rdLine d l=if opOf (l.take (pre isAz l))=0 then none else fin false (fit (ptS d (shpI (opOf (l.take (pre isAz l))))).data.toList (l.drop (pre isAz l)) {nv0 with op:=opOf (l.take (pre isAz l))}):=by
 unfold rdLine insL;rw[label_head hd h];simp only;by_cases h0:opOf (l.take (pre isAz l))=0
 ·rw[if_pos h0,if_pos h0]
 ·rw[if_neg h0,if_neg h0]
  show _=fin false (fit (ptL d _) _ _);cases fit (ptL d (shpI (opOf (l.take (pre isAz l))))) (l.drop (pre isAz l)) {nv0 with op:=opOf (l.take (pre isAz l))}with
  |none=>rfl
  |some x=>simp[fin]
theorem readLine_any:RLSpec:=by
 intro sb nb ob mf d b o cap l w hS hO hd hl hcap hA;have HS:Hid (SC w sb nb ob mf d):=hS;have HO:Hid (OpsAt w ob):=hO;have HD:Hid (d=0∨d=1):=hd;have HT:Hid (LT w b o cap l):=(⟨hA,hcap,hl⟩:LT w b o cap l)
 obtain⟨tot,htot⟩:∃t,rdLine d l=t:=⟨_,rfl⟩
 rw[htot];have HTOT:Hid (rdLine d l=tot):=htot;clear hS hO hd hl hcap hA htot;go_enter Tryz.func62,Tryz.ntmps62;go_wp2_with fail;obtain⟨p,hp⟩:∃p,w.heap.size=p:=⟨_,rfl⟩
 rw[hp];have HP:Hid (w.heap.size=p):=hp;have hq:w.heap.size<=p+1:=by omega
 have hpq:p≠p+1:=by omega
 have hp1:w.heap.size<=p:=by omega
 refine wp_scope_many (rlG Tryz.f62) (LJ w p (p+1) b tot) muL (fun l' a' v' h'=>?_) ?first (fun l' a' v' h'=>?_)
 ·have key:∀k,k=0∨k=1∨k=2∨k=3∨k=4->findLabel (rlF Tryz.f62) k=some (rlG Tryz.f62 k):=by
   intro k hk;unfold rlG rlF Tryz.f62;rcases hk with rfl|rfl|rfl|rfl|rfl<;>(dsimp only;rfl)
  have hk:l'=0∨l'=1∨l'=2∨l'=3∨l'=4:=by
   match l',h' with
   |0,_=>omega
   |1,_=>omega
   |2,_=>omega
   |3,_=>omega
   |4,_=>omega
   |_+5,h=>exact h.elim
  have:=key l' hk;unfold rlF Tryz.f62 at this;dsimp only at this;exact this
 ·go_upto_region 5 with fail
  obtain⟨u,hu,GX0⟩:∃v,(w.alloc (.cells #[.bool false,.int .i64 0,.int .i64 0,.int .i64 0,.int .i64 0,.int .i64 0,.int .i64 0] 120)).alloc (.cells #[.bool false,.int .i64 0,.int .i64 0,.int .i64 0,.int .i64 0,.int .i64 0,.int .i64 0] 120)=v/\Hid (GotX w p (p+1) false nv0 v):=by
   refine⟨_,rfl,?_⟩;obtain⟨ob1,hob1⟩:∃ob1,Obj.cells #[.bool false,.int .i64 0,.int .i64 0,.int .i64 0,.int .i64 0,.int .i64 0,.int .i64 0] 120=ob1:=⟨_,rfl⟩
   rw[hob1];have h1:Below w.heap.size w (w.alloc ob1):=(Below.refl _ _).alloc (Nat.le_refl _) _;have h2:Below (w.alloc ob1).heap.size (w.alloc ob1) ((w.alloc ob1).alloc ob1):=(Below.refl _ _).alloc (Nat.le_refl _) _;have e1:(w.alloc ob1).heap.size=p+1:=by simp[HP.out]
   refine(⟨h1.trans (h2.mono h1.size),?_,?_⟩:GotX w p (p+1) false nv0 _)
   ·rw[h2.block p (by omega),<-HP.out];refine(heap_alloc_newB w _).trans ?_;rw[<-hob1];rfl
   ·rw[<-e1];refine(heap_alloc_newB _ _).trans ?_;rw[<-hob1];rfl
  rw[hu];clear hu hp;have sc:∀{v':World},Below w.heap.size w v'->SC v' sb nb ob mf d:=fun{v'}hb=>by
   obtain⟨om,m1,m2⟩:=HS.out.M;exact HS.out.below hb (Array.getElem?_eq_some_iff.1 HS.out.S).1 (Array.getElem?_eq_some_iff.1 HS.out.N).1 (Array.getElem?_eq_some_iff.1 m1).1
  have HSC:Hid (∀{v':World},Below w.heap.size w v'->SC v' sb nb ob mf d):=sc;have HOP:Hid (∀{v':World},Below w.heap.size w v'->OpsAt v' ob):=(fun{v'}hb=>by
   obtain⟨oo,o1,o2⟩:=HO.out;exact HO.out.below hb (Array.getElem?_eq_some_iff.1 o1).1:∀{v':World},Below w.heap.size w v'->OpsAt v' ob)
  clear sc;go_wp2_with fail;refine(partsOf_any sb nb ob mf d 64 u (HSC.out GX0.out.bel) (by rcases HD.out with rfl|rfl<;>rfl)).mono ?_;rintro e v1⟨rfl,hb1⟩;have GX1:Hid (GotX w p (p+1) false nv0 v1):=GX0.out.below hb1;clear hb1 GX0;obtain⟨hl64,hlsz,hls0,hlc⟩:=pt_lab d HD.out;have HL64:Hid (∀c∈(ptS d 64).data.toList,c≠64):=hl64;obtain⟨s,hs⟩:∃s,ptS d 64=s:=⟨_,rfl⟩
  obtain⟨c0,hc0⟩:∃c,lbC d=c:=⟨_,rfl⟩
  rw[hs]at hlsz hls0 hlc⊢;rw[hc0]at hlc;have HSS:Hid (ptS d 64=s):=hs;have HC0:Hid (lbC d=c0):=hc0;clear hl64 hs hc0;obtain⟨m,hm⟩:∃m,decide (l.head?=some c0)=m:=⟨_,rfl⟩
  have HM:Hid (decide (l.head?=some c0)=m):=hm;clear hm;go_upto_region 6 with fail;go_cut [24]from 14 to 23(fun bv wx=>bv=.bool m/\GotX w p (p+1) false nv0 wx)
  case first=>
   cases l with
   |nil=>
    have e:Hid (false=m):=(by rw[<-HM.out];simp:false=m)
    go_quiet(fail);go_wp2_with fail;go_meet;exact⟨congrArg Value.bool e.out,GX1.out.below (below_drewN (Below.refl _ _) _)⟩
   |cons r l'=>
    have g0:v1.cell? ⟨b,o,none⟩=some (.int .u8 (r.toNat:Int)):=by
     have:=at_byte HT.out.A (k:=0) (by simp);exact(GX1.out.bel.cell (p:=⟨b,o,none⟩) HT.out.A.1).trans this
    have hl1:(0:Int)<(l'.length:Int)+1:=by omega
    have hrm:((r.toNat:Int)==(c0.toNat:Int))=m:=by
     rw[<-HM.out,Bool.eq_iff_iff];simp only[beq_iff_eq,List.head?_cons,Option.some.injEq,decide_eq_true_eq];exact⟨fun h=>UInt8.toNat_inj.1 (by omega),fun h=>by rw[h]⟩
    go_quiet(fail);go_wp2_with fail;go_meet;exact⟨rfl,GX1.out.below (below_drewN (Below.refl _ _) _)⟩
  case rest=>
   obtain⟨rfl,hX⟩:=hcut;have GX2:Hid (GotX w p (p+1) false nv0 wc):=hX;clear hX GX1 hlc;cases m with
   |true=>
    have q0:wc.cell? ⟨p+1,0,none⟩=some (.bool false):=hp_cell GX2.out.X 0;have qf:wc.frozen? ⟨p+1,0,none⟩=false:=hp_free GX2.out.X 0;have HR:Hid (fin true (fit s.data.toList l nv0)=tot):=(by
     rw[<-HTOT.out,<-HSS.out];exact fin_lab d HD.out l (by rw[HC0.out];simpa using HM.out):fin true (fit s.data.toList l nv0)=tot)
    go_wp2_with fail;go_step3;exact⟨_,_,true,nv0,o,cap,l,s,⟨rfl,rfl,rfl,rfl,rfl,rfl,rfl,rfl⟩,HT.out,GX2.out.put hq hpq rfl,by rw[<-HSS.out];exact HL64.out,HR.out,hlsz⟩
   |false=>
    have HHD:Hid (l.head?≠some (lbC d)):=(by rw[HC0.out];simpa using HM.out:l.head?≠some (lbC d))
    have HR0:Hid (_):=fin_ins d HD.out l HHD.out;go_wp2_with fail;refine(takeName_any sb nb ob mf d b o cap l wc (HSC.out GX2.out.bel) (HOP.out GX2.out.bel) HT.out.n HT.out.c (HT.out.A.below GX2.out.bel HT.out.A.1)).mono ?_;rintro e v2⟨⟨o2,rfl,ho2⟩,hb2⟩;have HPL:Hid (pre isAz l<=l.length):=pre_le isAz l;have HT2:Hid (LT w b o2 (cap-pre isAz l) (l.drop (pre isAz l))):=HT.out.drop _ o2 HPL.out ho2;have GX3:Hid (GotX w p (p+1) false nv0 v2):=GX2.out.below hb2;have q1:v2.cell? ⟨p+1,1,none⟩=some (.int .i64 0):=hp_cell GX3.out.X 1;have qf:v2.frozen? ⟨p+1,1,none⟩=false:=hp_free GX3.out.X 1;clear hb2 ho2 GX2;obtain⟨op,hop⟩:∃op,opOf (l.take (pre isAz l))=op:=⟨_,rfl⟩
    have HOPE:Hid (opOf (l.take (pre isAz l))=op):=hop;rw[hop]at HR0⊢;clear hop;obtain⟨k,hk⟩:∃k,pre isAz l=k:=⟨_,rfl⟩
    rw[hk]at HR0 HT2 HPL⊢;clear hk;rw[show l.length-k=(l.drop k).length from(List.length_drop ..).symm];obtain⟨l2,hl2⟩:∃l2,l.drop k=l2:=⟨_,rfl⟩
    rw[hl2]at HR0 HT2⊢;clear hl2;rw[HTOT.out]at HR0;go_upto_region 9 with fail;obtain⟨v3,hv3,GX4⟩:∃v3,v2.setCell ⟨p+1,1,none⟩ (.int .i64 op)=v3/\Hid (GotX w p (p+1) false {nv0 with op:=op} v3):=⟨_,rfl,GX3.out.put hq hpq rfl⟩
    rw[hv3];clear hv3 q1 qf GX3;have q1:v3.cell? ⟨p+1,1,none⟩=some (.int .i64 op):=hp_cell GX4.out.X 1;by_cases h0:op=0
    ·subst h0
     have HR:Hid (tot=none):=(by rw[HR0.out,if_pos rfl]:tot=none)
     go_wp2_with fail;go_step3;exact⟨_,_,_,_,false,_,⟨rfl,rfl,rfl,rfl,rfl,rfl,rfl,rfl⟩,GX4.out,HR.out⟩
    ·have hop0:(op==0)=false:=by rw[beq_eq_false_iff_ne];exact h0
     have HR:Hid (fin false (fit (ptS d (shpI op)).data.toList l2 {nv0 with op:=op})=tot):=(by rw[HR0.out,if_neg h0]:fin false (fit (ptS d (shpI op)).data.toList l2 {nv0 with op:=op})=tot)
     have HBK:Hid (1<=op/\op<=34):=⟨(op_back HOPE.out h0).1,(op_back HOPE.out h0).2.1⟩
     clear h0;go_wp2_with fail;refine(shapeOf_any op v3).mono ?_;rintro e w4⟨rfl,hw4⟩;rw[hw4];clear hw4;go_wp2_with fail;refine(partsOf_any sb nb ob mf d (shpI op) v3 (HSC.out GX4.out.bel) (form_in d op HD.out HBK.out.1 HBK.out.2)).mono ?_;rintro e v5⟨rfl,hb5⟩;have GX5:Hid (GotX w p (p+1) false {nv0 with op:=op} v5):=GX4.out.below hb5;clear hb5 GX4 q1;obtain⟨h64,hsz⟩:=pt_64 d op HD.out HBK.out.1 HBK.out.2;have H64:Hid (∀c∈(ptS d (shpI op)).data.toList,c≠64):=h64;obtain⟨s2,hs2⟩:∃s2,ptS d (shpI op)=s2:=⟨_,rfl⟩
     rw[hs2]at HR H64 hsz⊢;clear hs2 h64;go_wp2_with fail;rename_i KK hKK
     go_step3;refine hKK _ _ ?_;refine wp_of_eq (c:=(rlH Tryz.f62)) ?_ (pass0R w p (p+1) b tot _ hq hpq _ v5 ⟨_,_,false,{nv0 with op:=op},o2,cap-k,l2,s2,⟨rfl,rfl,rfl,rfl,rfl,rfl,rfl,rfl⟩,HT2.out,GX5.out,H64.out,HR.out,hsz⟩ (fun _ _ _ h2 _=>h2));unfold rlH rlF Tryz.f62;dsimp only;rfl
 ·have hQ:∀(a:Act)(v':World)v5 v6 v7 v9 v10,Frm a (.pointer (some ⟨p,0,none⟩)) v5 v6 v7 v9 v10->v'.heap[p]?=some (.cells (lnA tot) 120)->Below w.heap.size w v'->bodyPost Tryz.prog Tryz.f62 (fun e w'=>e=.returned (.agg (lnA tot))/\Below w.heap.size w w') .ret a v':=by
   intro a v' v5 v6 v7 v9 v10 hF hh hb;obtain⟨r,hr⟩:∃r,lnA tot=(lnV r).toArray:=⟨_,rfl⟩
   rw[hr]at hh⊢;have HB:Hid (Below w.heap.size w v'):=hb;have p0:=hp_cell hh 0;have p1:=hp_cell hh 1;have p2:=hp_cell hh 2;have p3:=hp_cell hh 3;have p4:=hp_cell hh 4;have p5:=hp_cell hh 5;have p6:=hp_cell hh 6;simp only[lnV,List.getElem?_toArray,List.getElem?_cons_zero,List.getElem?_cons_succ]at p0 p1 p2 p3 p4 p5 p6;obtain⟨u,rfl⟩:=hF.open;clear hF hh hr hb hq hpq hp1 hp HT HS HO HD HTOT HP;exact bodyPost_ret (v:=.agg (lnV r).toArray) (by simp[results,Tryz.results62,go_sem,lnV, *]) rfl ⟨rfl,HB.out⟩
  match l',h' with
  |0,h=>exact pass0 w p (p+1) b tot _ hq hpq a' v' h (fun l2 a2 v2 h2 h3=>⟨h2,h3⟩)
  |1,h=>refine pass1 w p (p+1) b tot _ hp1 ?_ a' v' h;exact hQ
  |2,h=>refine pass2 w p (p+1) b tot _ hp1 hpq ?_ a' v' h;exact hQ
  |3,h=>exact pass3 w p (p+1) b tot _ a' v' h (fun l2 a2 v2 h2 h3=>⟨h2,h3⟩)
  |4,h=>exact pass4 w p (p+1) b tot _ hq hpq a' v' h (fun l2 a2 v2 h2 h3=>⟨h2,h3⟩)
  |_+5,h=>exact h.elim
end Go.Proofs.YtblfmpgdhpbffaaGreatDoor
