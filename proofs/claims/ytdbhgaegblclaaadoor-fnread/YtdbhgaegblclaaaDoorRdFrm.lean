import Derived.Test.YtdbhgaegblclaaaDoorRdRL
set_option maxHeartbeats 800000
set_option maxRecDepth 20000
namespace Go.Proofs.YtdbhgaegblclaaaDoor
open Go.RowKit
def placeO(b o:Nat)(c:UInt8):Value:=if c=68 then .pointer (some ⟨b,o+1,none⟩)else if c=65 then .pointer (some ⟨b,o+2,none⟩)else if c=66 then .pointer (some ⟨b,o+3,none⟩)else if c=73 then .pointer (some ⟨b,o+4,none⟩)else if c=78 then .pointer (some ⟨b,o+4,none⟩)else if c=72 then .pointer (some ⟨b,o+5,none⟩)else .pointer none
theorem fieldAt_at(b o:Nat)(c:UInt8)(w:World):
 Calls Tryd.prog 79 #[.pointer (some ⟨b,o,none⟩),.int .u8 (c.toNat:Int)] w fun e w'=>e=.returned (placeO b o c)/\w'=w:=by
 by_cases e68:c=68
 ·subst e68
  go_enter Tryd.func79,Tryd.ntmps79;go_wp2;go_ret;exact⟨rfl,rfl⟩
 have f68:((c.toNat:Int)==68)=false:=by rw[beq_eq_false_iff_ne];intro x;exact e68 (UInt8.toNat_inj.1 (show c.toNat=68 by omega))
 by_cases e65:c=65
 ·subst e65
  go_enter Tryd.func79,Tryd.ntmps79;go_wp2;go_ret;exact⟨rfl,rfl⟩
 have f65:((c.toNat:Int)==65)=false:=by rw[beq_eq_false_iff_ne];intro x;exact e65 (UInt8.toNat_inj.1 (show c.toNat=65 by omega))
 by_cases e66:c=66
 ·subst e66
  go_enter Tryd.func79,Tryd.ntmps79;go_wp2;go_ret;exact⟨rfl,rfl⟩
 have f66:((c.toNat:Int)==66)=false:=by rw[beq_eq_false_iff_ne];intro x;exact e66 (UInt8.toNat_inj.1 (show c.toNat=66 by omega))
 by_cases e73:c=73
 ·subst e73
  go_enter Tryd.func79,Tryd.ntmps79;go_wp2;go_ret;exact⟨rfl,rfl⟩
 have f73:((c.toNat:Int)==73)=false:=by rw[beq_eq_false_iff_ne];intro x;exact e73 (UInt8.toNat_inj.1 (show c.toNat=73 by omega))
 by_cases e78:c=78
 ·subst e78
  go_enter Tryd.func79,Tryd.ntmps79;go_wp2;go_ret;exact⟨rfl,rfl⟩
 have f78:((c.toNat:Int)==78)=false:=by rw[beq_eq_false_iff_ne];intro x;exact e78 (UInt8.toNat_inj.1 (show c.toNat=78 by omega))
 by_cases e72:c=72
 ·subst e72
  go_enter Tryd.func79,Tryd.ntmps79;go_wp2;go_ret;exact⟨rfl,rfl⟩
 have f72:((c.toNat:Int)==72)=false:=by rw[beq_eq_false_iff_ne];intro x;exact e72 (UInt8.toNat_inj.1 (show c.toNat=72 by omega))
 rw[placeO,if_neg e68,if_neg e65,if_neg e66,if_neg e73,if_neg e78,if_neg e72];clear e68 e65 e66 e73 e78 e72;go_enter Tryd.func79,Tryd.ntmps79;go_wp2;go_ret;exact⟨rfl,rfl⟩
def fin(lb:Bool)(r:Option NV):Option Row:=match r with|some y=>if lb=true∨canS y=true then some (lb,y)else none|none=>none
structure GotX(w:World)(p q:Nat)(lb:Bool)(x:NV)(v:World):Prop where
 bel:Below w.heap.size w v
 P:v.heap[p]?=some (.cells (lnA none) 109)
 X:v.heap[q]?=some (.cells (lnV (lb,x)).toArray 109)
theorem GotX.below{w v v':World}{p q:Nat}{lb:Bool}{x:NV}(h:GotX w p q lb x v)(hb:Below v.heap.size v v'):GotX w p q lb x v':=
 ⟨h.bel.trans (hb.mono h.bel.size),(hb.block p (Array.getElem?_eq_some_iff.1 h.P).1).trans h.P,(hb.block q (Array.getElem?_eq_some_iff.1 h.X).1).trans h.X⟩
theorem GotX.put{w v:World}{p q j:Nat}{lb lb':Bool}{x y:NV}{val:Value}(h:GotX w p q lb x v)(hq:w.heap.size<=q)(hne:p≠q)(hy:(lnV (lb,x)).toArray.setIfInBounds j val=(lnV (lb',y)).toArray):GotX w p q lb' y (v.setCell ⟨q,j,none⟩ val):=
 ⟨h.bel.setCell hq _,hp_other h.P hne _ _,by rw[hp_set h.X,hy]⟩
theorem GotX.sz{w v:World}{p q:Nat}{lb:Bool}{x:NV}(h:GotX w p q lb x v):p<v.heap.size/\q<v.heap.size:=⟨(Array.getElem?_eq_some_iff.1 h.P).1,(Array.getElem?_eq_some_iff.1 h.X).1⟩
structure LT(w:World)(b o cap:Nat)(l:List UInt8):Prop where
 A:At w b o l.length (numF .u8 (bF l))
 c:l.length<=cap
 n:(l.length:Int)<=1048576
theorem LT.drop{w:World}{b o cap:Nat}{l:List UInt8}(h:LT w b o cap l)(k o':Nat)(hk:k<=l.length)(ho:o'=o+k∨l.length-k=0):LT w b o' (cap-k) (l.drop k):=by
 have hc:=h.c;have hn:=h.n;refine⟨?_,by rw[List.length_drop];omega,by rw[List.length_drop];omega⟩;rcases ho with rfl|h0
 ·exact at_drop h.A k hk
 ·rw[List.length_drop,h0]
  exact⟨h.A.1,fun i hi=>absurd hi (Nat.not_lt_zero _)⟩
structure Frm(a:Act)(v4 v5 v6 v7 v9 v10:Value):Prop where
 d:a.defers=[]
 n:a.tmps.size=127
 h4:a.tmps[4]?=some v4
 h5:a.tmps[5]?=some v5
 h6:a.tmps[6]?=some v6
 h7:a.tmps[7]?=some v7
 h9:a.tmps[9]?=some v9
 h10:a.tmps[10]?=some v10
theorem Frm.open{a:Act}{v4 v5 v6 v7 v9 v10:Value}(h:Frm a v4 v5 v6 v7 v9 v10):∃u:Nat->Value,a=⟨#[u 0,u 1,u 2,u 3,v4,v5,v6,v7,u 8,v9,v10,u 11,u 12,u 13,u 14,u 15,u 16,u 17,u 18,u 19,u 20,u 21,u 22,u 23,u 24,u 25,u 26,u 27,u 28,u 29,u 30,u 31,u 32,u 33,u 34,u 35,u 36,u 37,u 38,u 39,u 40,u 41,u 42,u 43,u 44,u 45,u 46,u 47,u 48,u 49,u 50,u 51,u 52,u 53,u 54,u 55,u 56,u 57,u 58,u 59,u 60,u 61,u 62,u 63,u 64,u 65,u 66,u 67,u 68,u 69,u 70,u 71,u 72,u 73,u 74,u 75,u 76,u 77,u 78,u 79,u 80,u 81,u 82,u 83,u 84,u 85,u 86,u 87,u 88,u 89,u 90,u 91,u 92,u 93,u 94,u 95,u 96,u 97,u 98,u 99,u 100,u 101,u 102,u 103,u 104,u 105,u 106,u 107,u 108,u 109,u 110,u 111,u 112,u 113,u 114,u 115,u 116,u 117,u 118,u 119,u 120,u 121,u 122,u 123,u 124,u 125,u 126],[]⟩:=by
 obtain⟨⟨xs⟩,ds⟩:=a;obtain⟨hd,hn,h4,h5,h6,h7,h9,h10⟩:=h;simp only at hd hn h4 h5 h6 h7 h9 h10;subst hd;refine⟨fun i=>xs.getD i undef,?_⟩;have key:xs=(List.range 127).map fun i=>if i=4 then v4 else if i=5 then v5 else if i=6 then v6 else if i=7 then v7 else if i=9 then v9 else if i=10 then v10 else xs.getD i undef:=by
  refine List.ext_getElem? fun i=>?_
  have hl:xs.length=127:=hn;by_cases hi:i<127
  ·rw[List.getElem?_map,List.getElem?_range hi]
   simp only[Option.map_some];simp only[List.getElem?_toArray]at h4 h5 h6 h7 h9 h10;by_cases e4:i=4
   ·subst e4;rw[if_pos rfl];exact h4
   by_cases e5:i=5
   ·subst e5;rw[if_neg e4,if_pos rfl];exact h5
   by_cases e6:i=6
   ·subst e6;rw[if_neg e4,if_neg e5,if_pos rfl];exact h6
   by_cases e7:i=7
   ·subst e7;rw[if_neg e4,if_neg e5,if_neg e6,if_pos rfl];exact h7
   by_cases e9:i=9
   ·subst e9;rw[if_neg e4,if_neg e5,if_neg e6,if_neg e7,if_pos rfl];exact h9
   by_cases e10:i=10
   ·subst e10;rw[if_neg e4,if_neg e5,if_neg e6,if_neg e7,if_neg e9,if_pos rfl];exact h10
   rw[if_neg e4,if_neg e5,if_neg e6,if_neg e7,if_neg e9,if_neg e10,List.getD_eq_getElem?_getD,List.getElem?_eq_getElem (by omega)];rfl
  ·rw[List.getElem?_eq_none (by omega),List.getElem?_eq_none (by simp;omega)]
 have e2:(⟨⟨xs⟩,[]⟩:Act)=⟨⟨(List.range 127).map fun i=>if i=4 then v4 else if i=5 then v5 else if i=6 then v6 else if i=7 then v7 else if i=9 then v9 else if i=10 then v10 else xs.getD i undef⟩,[]⟩:=by rw[<-key]
 rw[e2];rfl
def rlF(f:Func):Code:=match f.body with|some (.seq _ (.scope c))=>c|_=>.skip
def rlG(f:Func)(l:Nat):Code:=(findLabel (rlF f) l).getD .skip
theorem wp_found{P:Program}{Q:Exit->Act->World->Prop}{a:Act}{w:World}{l:Nat}{c:Code}(h:findLabel (rlF Tryd.f72) l=some c)(hw:c.wp P Q a w):(rlG Tryd.f72 l).wp P Q a w:=by
 unfold rlG;rw[h];exact hw
def LJ(w:World)(p q b:Nat)(tot:Option Row):Nat->Act->World->Prop
 |0,a,v=>∃(v6 v7:Value)(lb:Bool)(x:NV)(o' cap':Nat)(l':List UInt8)(s:ByteArray),Frm a (.pointer (some ⟨p,0,none⟩)) (.pointer (some ⟨q,0,none⟩)) v6 v7 (.slice (some ⟨b,o',none⟩) l'.length cap') (.string s)/\LT w b o' cap' l'/\GotX w p q lb x v/\(∀c∈s.data.toList,c≠64)/\fin lb (fit s.data.toList l' x)=tot/\(s.size:Int)<=100
 |1,a,v=>∃(v6 v7 v9 v10:Value)(lb:Bool)(x:NV),Frm a (.pointer (some ⟨p,0,none⟩)) (.pointer (some ⟨q,0,none⟩)) v6 v7 v9 v10/\GotX w p q lb x v/\tot=none
 |2,a,v=>∃(v6 v7 v10:Value)(lb:Bool)(x:NV)(o' cap':Nat)(l':List UInt8),Frm a (.pointer (some ⟨p,0,none⟩)) (.pointer (some ⟨q,0,none⟩)) v6 v7 (.slice (some ⟨b,o',none⟩) l'.length cap') v10/\LT w b o' cap' l'/\GotX w p q lb x v/\fin lb (fit [] l' x)=tot
 |3,a,v=>∃(v6:Value)(c:UInt8)(lb:Bool)(x:NV)(o' cap':Nat)(l':List UInt8)(s:ByteArray),Frm a (.pointer (some ⟨p,0,none⟩)) (.pointer (some ⟨q,0,none⟩)) v6 (.int .u8 (c.toNat:Int)) (.slice (some ⟨b,o',none⟩) l'.length cap') (.string s)/\LT w b o' cap' l'/\GotX w p q lb x v/\(∀c∈s.data.toList,c≠64)/\isFd c=false/\fin lb (fit (c::s.data.toList) l' x)=tot/\(s.size:Int)<=100
 |4,a,v=>∃(v7:Value)(lb:Bool)(x:NV)(o' cap':Nat)(l':List UInt8)(s:ByteArray),Frm a (.pointer (some ⟨p,0,none⟩)) (.pointer (some ⟨q,0,none⟩)) (.pointer (some ⟨q,5,none⟩)) v7 (.slice (some ⟨b,o',none⟩) l'.length cap') (.string s)/\LT w b o' cap' l'/\GotX w p q lb x v/\(∀c∈s.data.toList,c≠64)/\l'.head?=some 45/\fin lb (fit (73::s.data.toList) l' x)=tot/\(s.size:Int)<=100
 |_,_,_=>False
def lw:Nat->Nat
 |0=>5
 |1=>1
 |2=>2
 |_=>8
def szS:Value->Nat
 |.string s=>s.size
 |_=>0
def muL(l:Nat)(a:Act)(_:World):Nat:=szS (a.tmps.getD 10 undef)*10+lw l
end Go.Proofs.YtdbhgaegblclaaaDoor
