import Derived.Test.YtjoppncopoampaaGreatDoorOfCoreReg
import Derived.Test.YtjoppncopoampaaGreatDoorOfBytes
import Derived.Test.YtjoppncopoampaaGreatDoorOfSpecDo
import Derived.Deep.CutBlock
import Derived.Laws.OwnMore
namespace Go.Proofs.YtjoppncopoampaaGreatDoor
open Go.RowKit
theorem sZ(w:World)(p:Nat)(d:Option Addr)(n c:Nat)(j:CJ w p d n c):DX w p d n c (w.heap.size+1) w.heap.size GQ ((w.alloc (.cells GQ.a 32)).alloc (.cells GQ.a 32)):=by
 have b:Bw w ((w.alloc (.cells GQ.a 32)).alloc (.cells GQ.a 32)):=(Ai).alloc AX _;have e:(w.alloc (.cells GQ.a 32)).heap.size=w.heap.size+1:=AX;refine⟨⟨.of_below b,j.below b,⟨rfl,.inl ⟨rfl,rfl⟩⟩,⟨rfl,.inl ⟨rfl,rfl⟩⟩,⟨rfl,.inl ⟨rfl,rfl⟩⟩,fun _ h=>absurd h List.not_mem_nil,fun _ h=>absurd h List.not_mem_nil,fun _ h=>absurd h List.not_mem_nil,j.lt⟩,?_,?_,Nat.le_succ _,BQ,AB⟩
 ·rw[<-e];exact Az _ _
 ·exact(Below.heap_alloc _ _ _ (by rw[e];omega)).trans (Az w _)
theorem qw:∀(a:List HD)(k:Nat)(x:HD),a[k]?=some x->(a.flatMap ZU)[k*3]?=some (.int .u64 x.base)
 |[],k,x,h=>by simp at h
 |y::l,0,x,h=>by
  have e:y=x:=by simpa using h
  rw[e];rfl
 |y::l,k+1,x,h=>by
  rw[List.flatMap_cons,List.getElem?_append_right (by show 3<=_;omega)];have:=qw l k x (by simpa using h);rw[show(k+1)*3-(ZU y).length=k*3 by show(k+1)*3-3=k*3;omega];exact this
end Go.Proofs.YtjoppncopoampaaGreatDoor
