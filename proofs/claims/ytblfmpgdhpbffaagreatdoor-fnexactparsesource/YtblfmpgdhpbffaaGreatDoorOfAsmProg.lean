import Derived.Test.YtblfmpgdhpbffaaGreatDoorAsmShape
import Derived.Deep.DeepCutAuto
import Derived.Test.YtblfmpgdhpbffaaGreatDoorOfInsSame
import Derived.Test.YtblfmpgdhpbffaaGreatDoorOfOpenRow
import Derived.Deep.QuietTactic
import Derived.BigQuiet
import Derived.Deep.RegionWith
import Derived.BigRegion
import Derived.Lib.AppendIntMem
import Derived.Maps.AppendAt
import Derived.OwnWalk
import Derived.Lib.BufferWrite
import Derived.Deep.Onto
set_option maxHeartbeats 800000
namespace Go.Proofs.YtblfmpgdhpbffaaGreatDoor
open Go.RowKit
theorem ite_size{p:Prop} [Decidable p]{x y:ByteArray}{n:Nat}(h1:x.size<=n)(h2:y.size<=n):(if p then x else y).size<=n:=by split<;>assumption
theorem shpS_size(d op:Int):(shpS d op).size<=30:=by
 unfold shpS;repeat' apply ite_size
 all_goals decide
theorem nmS_size(op:Int):(nmS op).size<=10:=by
 unfold nmS;rw[List.getD_eq_getElem?_getD];rcases h:nmT[op.toNat]? with _|x
 ·decide
 ·have:∀y∈nmT,y.size<=10:=by decide
  exact this x (List.mem_of_getElem? h)
def begS(d op:Int):ByteArray:=if(shpS d op).toList.isEmpty=true then nmS op else nmS op++⟨#[32]⟩
theorem row_belowB{w w':World}{base e size n:Nat}{v:Value}{xs:List Value}(h:w.ownsRow base e size v n xs)(hb:Below w.heap.size w w'):w'.ownsRow base e size v n xs:=by
 refine⟨h.1,?_⟩;rcases h.2 with h|⟨g,cap,cur,rfl,h1,h2,h3⟩
 ·exact .inl h
 ·have hg:g<w.heap.size:=(Array.getElem?_eq_some_iff.1 h2).1
  exact .inr ⟨g,cap,cur,rfl,h1,(hb.block g hg).trans h2,h3⟩
theorem info_u8:(Tryz.prog.info? 5).map (fun i=>(i.zero,i.size,i.bytes))=some (some (.int .u8 0),1,1):=by kernel_rfl
theorem heap_alloc_newB(w:World)(o:Obj):(w.alloc o).heap[w.heap.size]?=some o:=by simp only[World.alloc];simp
def formL:List (Int×Int×ByteArray):=[(0,3,⟨#[32,37,114,65,44,32,37,114,68]⟩),(0,9,⟨#[32,36,73,44,32,37,114,68]⟩),(0,7,⟨#[32,37,114,65,44,32,37,114,66,44,32,37,114,68]⟩),(0,11,⟨#[32,37,114,65,44,32,36,73,44,32,37,114,68]⟩),(0,6,⟨#[32,37,114,65,44,32,37,114,66]⟩),(0,10,⟨#[32,37,114,65,44,32,36,73]⟩),(0,27,⟨#[32,73,40,37,114,65,41,44,32,37,114,68,32,35,32,104,72]⟩),(0,59,⟨#[32,37,114,68,44,32,73,40,37,114,65,41,32,35,32,104,72]⟩),(0,23,⟨#[32,40,37,114,65,44,37,114,66,41,44,32,37,114,68,32,35,32,104,72]⟩),(0,55,⟨#[32,37,114,68,44,32,40,37,114,65,44,37,114,66,41,32,35,32,104,72]⟩),(0,8,⟨#[32,46,76,78]⟩),(0,0,⟨#[]⟩),(0,64,⟨#[46,76,78,58]⟩),(1,3,⟨#[32,114,68,44,32,114,65]⟩),(1,9,⟨#[32,114,68,44,32,73]⟩),(1,7,⟨#[32,114,68,44,32,114,65,44,32,114,66]⟩),(1,11,⟨#[32,114,68,44,32,114,65,44,32,73]⟩),(1,6,⟨#[32,114,65,44,32,114,66]⟩),(1,10,⟨#[32,114,65,44,32,73]⟩),(1,27,⟨#[32,114,68,44,32,91,114,65,32,43,32,73,93,32,59,32,104,72]⟩),(1,59,⟨#[32,91,114,65,32,43,32,73,93,44,32,114,68,32,59,32,104,72]⟩),(1,23,⟨#[32,114,68,44,32,91,114,65,32,43,32,114,66,93,32,59,32,104,72]⟩),(1,55,⟨#[32,91,114,65,32,43,32,114,66,93,44,32,114,68,32,59,32,104,72]⟩),(1,8,⟨#[32,76,78]⟩),(1,0,⟨#[]⟩),(1,64,⟨#[76,78,58]⟩)]
def ptS(d h:Int):ByteArray:=((formL.find? fun x=>x.1==d&&x.2.1==h).map fun x=>x.2.2).getD ⟨#[]⟩
def shpI(op:Int):Int:=if op=23∨op=24 then 59 else if op=27∨op=28 then 55 else fieldsI op
theorem empty_list(s:ByteArray):s.toList.isEmpty=s.data.toList.isEmpty:=by rw[ByteArray.toList_eq]
theorem shapeOf_any(op:Int)(w:World):
 Calls Tryz.prog 100 #[.int .i64 op] w fun e w'=>e=.returned (.int .i64 (shpI op))/\w'=w:=by
 by_cases hs:op=23∨op=24∨op=27∨op=28
 ·rcases hs with rfl|rfl|rfl|rfl
  all_goals
   go_enter Tryz.func100,Tryz.ntmps100;go_wp2_with(first|(go_at_call 119;refine(fields_any _ _).mono ?_;rintro e w1⟨rfl,rfl⟩));go_ret;exact⟨rfl,rfl⟩
 ·have k1:(op==23)=false:=by rw[beq_eq_false_iff_ne];omega
  have k2:(op==24)=false:=by rw[beq_eq_false_iff_ne];omega
  have k3:(op==27)=false:=by rw[beq_eq_false_iff_ne];omega
  have k4:(op==28)=false:=by rw[beq_eq_false_iff_ne];omega
  have e:shpI op=fieldsI op:=by unfold shpI;rw[if_neg (by omega),if_neg (by omega)]
  rw[e];clear hs e;go_enter Tryz.func100,Tryz.ntmps100;go_wp2_with(first|(go_at_call 119;refine(fields_any _ _).mono ?_;rintro e w1⟨rfl,rfl⟩));go_ret;exact⟨rfl,rfl⟩
end Go.Proofs.YtblfmpgdhpbffaaGreatDoor
