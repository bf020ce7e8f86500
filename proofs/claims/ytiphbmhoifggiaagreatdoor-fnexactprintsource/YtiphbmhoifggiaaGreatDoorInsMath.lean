import Derived.WalkKit
namespace Go.Proofs.YtiphbmhoifggiaaGreatDoor
open Go.RowKit
def usesL(op:Int):List UInt8:=
 if op=1 then[68,65]else if op=2 then[68,73]
 else if op=10∨op=11∨op=12∨op=13 then[68,65,73]
 else if op=17 then[65,66]else if op=18 then[65,73]
 else if op=21∨op=22∨op=23∨op=24 then[68,65,73,72]
 else if op=25∨op=26∨op=27∨op=28 then[68,65,66,72]
 else if op=29∨op=30∨op=31∨op=32∨op=33 then[73]
 else if op=34 then[]else[68,65,66]
def usesS(op:Int):ByteArray:=⟨(usesL op).toArray⟩
def fieldsI(op:Int):Int:=
 if op=1 then 3 else if op=2 then 9
 else if op=10∨op=11∨op=12∨op=13 then 11
 else if op=17 then 6 else if op=18 then 10
 else if op=21∨op=22∨op=23∨op=24 then 27
 else if op=25∨op=26∨op=27∨op=28 then 23
 else if op=29∨op=30∨op=31∨op=32∨op=33 then 8
 else if op=34 then 0 else 7
def immLo(op:Int):Int:=if op=11∨op=12∨op=13∨(29<=op/\op<=33)then 0 else -1000000
def immHi(op:Int):Int:=if op=12∨op=13 then 63 else if 29<=op/\op<=33 then 1999 else 1000000
def inB(x lo hi:Int):Bool:=decide (lo<=x)&&decide (x<=hi)
def jumpB(op:Int):Bool:=decide (29<=op)&&decide (op<=33)
def fieldB(used:Bool)(v lo hi:Int):Bool:=if used then inB v lo hi else v==0
def hasB(s:ByteArray)(b:UInt8):Bool:=s.data.toList.contains b
theorem ret_bool{a b:Bool}(h:a=b):Ending.returned (.bool a)=.returned (.bool b):=by rw[h]
theorem ret_int{k:IntKind}{a b:Int}(h:a=b):Ending.returned (.int k a)=.returned (.int k b):=by rw[h]
theorem ret_str{a b:ByteArray}(h:a=b):Ending.returned (.string a)=.returned (.string b):=by rw[h]
theorem take_snoc(s:ByteArray)(k:Nat)(h:k<s.size):s.data.toList.take (k+1)=s.data.toList.take k++[s[k]]:=by
 rw[List.take_succ_eq_append_getElem (by simpa using h)];rfl
theorem ret_int2{k l:IntKind}{a b c d:Int}(h:a=b)(g:c=d):Ending.returned (.tuple #[.int k a,.int l c])=.returned (.tuple #[.int k b,.int l d]):=by rw[h,g]
theorem has_yes(s:ByteArray)(b:UInt8)(k:Nat)(hk:k<s.size)(h:((s[k].toNat:Int)==(b.toNat:Int))=true):hasB s b=true:=by
 have e:s[k]=b:=by rw[beq_iff_eq]at h;exact UInt8.toNat_inj.1 (by omega)
 unfold hasB;rw[List.contains_iff_mem];rw[<-e];have:s[k]=s.data.toList[k]'(by simpa using hk):=rfl;rw[this];exact List.getElem_mem _
theorem has_no(s:ByteArray)(b:UInt8)(k:Nat)(h:(s.data.toList.take k).contains b=false){hk:k<s.size}(e:s.data.toList.take (k+1)=s.data.toList.take k++[s[k]])(g:((s[k].toNat:Int)==(b.toNat:Int))=false):
 (s.data.toList.take (k+1)).contains b=false:=by
 rw[e];have n:s[k]≠b:=by intro x;rw[x]at g;simp at g
 simp only[List.contains_eq_mem,decide_eq_false_iff_not]at h;simp only[List.contains_eq_mem,decide_eq_false_iff_not,List.mem_append,List.mem_singleton,not_or];exact⟨h,fun x=>n x.symm⟩
theorem has_end(s:ByteArray)(b:UInt8)(k:Nat)(_hk:k<=s.size)(he:s.size<=k)(h:(s.data.toList.take k).contains b=false):hasB s b=false:=by
 rw[List.take_of_length_le (by simpa using he)]at h;exact h
end Go.Proofs.YtiphbmhoifggiaaGreatDoor
