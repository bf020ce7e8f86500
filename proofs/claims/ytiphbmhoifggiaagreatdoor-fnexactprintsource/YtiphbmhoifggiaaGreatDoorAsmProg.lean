import Derived.Test.YtiphbmhoifggiaaGreatDoorAsmSpec
set_option maxHeartbeats 800000
namespace Go.Proofs.YtiphbmhoifggiaaGreatDoor
open Go.RowKit
def formL:List (Int×Int×ByteArray):=[(0,3,⟨#[32,37,114,65,44,32,37,114,68]⟩),(0,9,⟨#[32,36,73,44,32,37,114,68]⟩),(0,7,⟨#[32,37,114,65,44,32,37,114,66,44,32,37,114,68]⟩),(0,11,⟨#[32,37,114,65,44,32,36,73,44,32,37,114,68]⟩),(0,6,⟨#[32,37,114,65,44,32,37,114,66]⟩),(0,10,⟨#[32,37,114,65,44,32,36,73]⟩),(0,27,⟨#[32,73,40,37,114,65,41,44,32,37,114,68,32,35,32,104,72]⟩),(0,59,⟨#[32,37,114,68,44,32,73,40,37,114,65,41,32,35,32,104,72]⟩),(0,23,⟨#[32,40,37,114,65,44,37,114,66,41,44,32,37,114,68,32,35,32,104,72]⟩),(0,55,⟨#[32,37,114,68,44,32,40,37,114,65,44,37,114,66,41,32,35,32,104,72]⟩),(0,8,⟨#[32,46,76,78]⟩),(0,0,⟨#[]⟩),(0,64,⟨#[46,76,78,58]⟩),(1,3,⟨#[32,114,68,44,32,114,65]⟩),(1,9,⟨#[32,114,68,44,32,73]⟩),(1,7,⟨#[32,114,68,44,32,114,65,44,32,114,66]⟩),(1,11,⟨#[32,114,68,44,32,114,65,44,32,73]⟩),(1,6,⟨#[32,114,65,44,32,114,66]⟩),(1,10,⟨#[32,114,65,44,32,73]⟩),(1,27,⟨#[32,114,68,44,32,91,114,65,32,43,32,73,93,32,59,32,104,72]⟩),(1,59,⟨#[32,91,114,65,32,43,32,73,93,44,32,114,68,32,59,32,104,72]⟩),(1,23,⟨#[32,114,68,44,32,91,114,65,32,43,32,114,66,93,32,59,32,104,72]⟩),(1,55,⟨#[32,91,114,65,32,43,32,114,66,93,44,32,114,68,32,59,32,104,72]⟩),(1,8,⟨#[32,76,78]⟩),(1,0,⟨#[]⟩),(1,64,⟨#[76,78,58]⟩)]
def ptS(d h:Int):ByteArray:=((formL.find? fun x=>x.1==d&&x.2.1==h).map fun x=>x.2.2).getD ⟨#[]⟩
def shpI(op:Int):Int:=if op=23∨op=24 then 59 else if op=27∨op=28 then 55 else fieldsI op
def rbI(dd a b i h:Int)(c:UInt8):ByteArray:=
 if c=68 then digS dd else if c=65 then digS a else if c=66 then digS b else if c=73 then digS i else if c=78 then digS i else if c=72 then digS h else⟨#[c]⟩
def lineI(d op dd a b i h:Int):ByteArray:=rendS (rbI dd a b i h) (nmS op) (ptS d (shpI op)).data.toList
theorem empty_list(s:ByteArray):s.toList.isEmpty=s.data.toList.isEmpty:=by rw[ByteArray.toList_eq]
theorem line_same(d op dd a b i h:Int)(h1:1<=op)(h2:op<=34)(hd:d=0∨d=1):lineI d op dd a b i h=lineS d op dd a b i h:=by
 unfold lineI lineS begS;rw[empty_list];obtain rfl|rfl|rfl|rfl|rfl|rfl|rfl|rfl|rfl|rfl|rfl|rfl|rfl|rfl|rfl|rfl|rfl|rfl|rfl|rfl|rfl|rfl|rfl|rfl|rfl|rfl|rfl|rfl|rfl|rfl|rfl|rfl|rfl|rfl:op=1∨op=2∨op=3∨op=4∨op=5∨op=6∨op=7∨op=8∨op=9∨op=10∨op=11∨op=12∨op=13∨op=14∨op=15∨op=16∨op=17∨op=18∨op=19∨op=20∨op=21∨op=22∨op=23∨op=24∨op=25∨op=26∨op=27∨op=28∨op=29∨op=30∨op=31∨op=32∨op=33∨op=34:=by omega
 all_goals(rcases hd with rfl|rfl<;>rfl)
theorem isDialect_any(d:Int)(w:World):
 Calls Tryz.prog 23 #[.int .i64 d] w fun e w'=>e=.returned (.bool (inB d 0 1))/\w'=w:=by
 by_cases h0:d=0
 ·subst h0
  go_enter Tryz.func23,Tryz.ntmps23;go_wp2;go_ret;exact⟨rfl,rfl⟩
 ·have k0:(d==0)=false:=by simp[h0]
  by_cases h1:d=1
  ·subst h1
   go_enter Tryz.func23,Tryz.ntmps23;go_wp2;go_ret;exact⟨rfl,rfl⟩
  ·have k1:(d==1)=false:=by simp[h1]
   have e:inB d 0 1=false:=by unfold inB;simp;omega
   rw[e];clear h0 h1 e;go_enter Tryz.func23,Tryz.ntmps23;go_wp2;go_ret;exact⟨rfl,rfl⟩
theorem shapeOf_any(op:Int)(w:World):
 Calls Tryz.prog 83 #[.int .i64 op] w fun e w'=>e=.returned (.int .i64 (shpI op))/\w'=w:=by
 by_cases hs:op=23∨op=24∨op=27∨op=28
 ·rcases hs with rfl|rfl|rfl|rfl
  all_goals
   go_enter Tryz.func83,Tryz.ntmps83;go_wp2_with(first|(go_at_call 102;refine(fields_any _ _).mono ?_;rintro e w1⟨rfl,rfl⟩));go_ret;exact⟨rfl,rfl⟩
 ·have k1:(op==23)=false:=by rw[beq_eq_false_iff_ne];omega
  have k2:(op==24)=false:=by rw[beq_eq_false_iff_ne];omega
  have k3:(op==27)=false:=by rw[beq_eq_false_iff_ne];omega
  have k4:(op==28)=false:=by rw[beq_eq_false_iff_ne];omega
  have e:shpI op=fieldsI op:=by unfold shpI;rw[if_neg (by omega),if_neg (by omega)]
  rw[e];clear hs e;go_enter Tryz.func83,Tryz.ntmps83;go_wp2_with(first|(go_at_call 102;refine(fields_any _ _).mono ?_;rintro e w1⟨rfl,rfl⟩));go_ret;exact⟨rfl,rfl⟩
def placeI(b:Nat)(c:UInt8):Value:=if c=68 then .pointer (some ⟨b,1,none⟩)else if c=65 then .pointer (some ⟨b,2,none⟩)else if c=66 then .pointer (some ⟨b,3,none⟩)else if c=73 then .pointer (some ⟨b,4,none⟩)else if c=78 then .pointer (some ⟨b,4,none⟩)else if c=72 then .pointer (some ⟨b,5,none⟩)else .pointer none
theorem fieldAt_any(b:Nat)(c:UInt8)(w:World):
 Calls Tryz.prog 100 #[.pointer (some ⟨b,0,none⟩),.int .u8 (c.toNat:Int)] w fun e w'=>e=.returned (placeI b c)/\w'=w:=by
 by_cases e68:c=68
 ·subst e68
  go_enter Tryz.func100,Tryz.ntmps100;go_wp2;go_ret;exact⟨rfl,rfl⟩
 have f68:((c.toNat:Int)==68)=false:=by rw[beq_eq_false_iff_ne];intro x;exact e68 (UInt8.toNat_inj.1 (show c.toNat=68 by omega))
 by_cases e65:c=65
 ·subst e65
  go_enter Tryz.func100,Tryz.ntmps100;go_wp2;go_ret;exact⟨rfl,rfl⟩
 have f65:((c.toNat:Int)==65)=false:=by rw[beq_eq_false_iff_ne];intro x;exact e65 (UInt8.toNat_inj.1 (show c.toNat=65 by omega))
 by_cases e66:c=66
 ·subst e66
  go_enter Tryz.func100,Tryz.ntmps100;go_wp2;go_ret;exact⟨rfl,rfl⟩
 have f66:((c.toNat:Int)==66)=false:=by rw[beq_eq_false_iff_ne];intro x;exact e66 (UInt8.toNat_inj.1 (show c.toNat=66 by omega))
 by_cases e73:c=73
 ·subst e73
  go_enter Tryz.func100,Tryz.ntmps100;go_wp2;go_ret;exact⟨rfl,rfl⟩
 have f73:((c.toNat:Int)==73)=false:=by rw[beq_eq_false_iff_ne];intro x;exact e73 (UInt8.toNat_inj.1 (show c.toNat=73 by omega))
 by_cases e78:c=78
 ·subst e78
  go_enter Tryz.func100,Tryz.ntmps100;go_wp2;go_ret;exact⟨rfl,rfl⟩
 have f78:((c.toNat:Int)==78)=false:=by rw[beq_eq_false_iff_ne];intro x;exact e78 (UInt8.toNat_inj.1 (show c.toNat=78 by omega))
 by_cases e72:c=72
 ·subst e72
  go_enter Tryz.func100,Tryz.ntmps100;go_wp2;go_ret;exact⟨rfl,rfl⟩
 have f72:((c.toNat:Int)==72)=false:=by rw[beq_eq_false_iff_ne];intro x;exact e72 (UInt8.toNat_inj.1 (show c.toNat=72 by omega))
 rw[placeI,if_neg e68,if_neg e65,if_neg e66,if_neg e73,if_neg e78,if_neg e72];clear e68 e65 e66 e73 e78 e72;go_enter Tryz.func100,Tryz.ntmps100;go_wp2;go_ret;exact⟨rfl,rfl⟩
end Go.Proofs.YtiphbmhoifggiaaGreatDoor
