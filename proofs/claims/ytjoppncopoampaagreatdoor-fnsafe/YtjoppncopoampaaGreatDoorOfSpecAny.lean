import Derived.Test.YtjoppncopoampaaGreatDoorOfCoreReg
import Derived.Test.YtjoppncopoampaaGreatDoorOfSpecDo
import Derived.Test.YtjoppncopoampaaGreatDoorOfSpecI64
import Derived.Deep.RegionHeld
namespace Go.Proofs.YtjoppncopoampaaGreatDoor
open Go.RowKit
def Jb(o:Ia):MV:=match o with
 |.inl (M',nx)=>{M' with pc:=nx}
 |.inr M'=>M'.fault
theorem Oi(a:Nat)(F:Nat->Nat->Int)(M:MV)(h:¬(a:Int)<=M.pc):
 stepM a F M=Jb (exec (F M.pc.toNat 0).toNat (F M.pc.toNat 1).toNat (F M.pc.toNat 2).toNat (F M.pc.toNat 3).toNat (F M.pc.toNat 5).toNat (F M.pc.toNat 4) M (M.pc+1)):=by
 unfold stepM;rw[if_neg h];rfl
theorem Kv(M:MV)(h o:Nat)(v:Int):∀k,(M.pokeN h o v k).st=M.st/\(M.pokeN h o v k).pc=M.pc
 |0=>⟨rfl,rfl⟩
 |k+1=>by have:=Kv M h o v k;exact this
def Plain(M:MV)(f:Int->Ia):Prop:=(∃M',(∀nx,f nx=.done M' nx)/\M'.st=M.st/\M'.pc=M.pc)∨(∃M',∀nx,f nx=.flt M')
theorem Ua(s:Bool)(c:Nat)(A:Int)(d h:Nat)(M:MV):Plain M (Cm s c A d h M):=by
 unfold Cm;by_cases a:M.nH<=h
 ·simp only[if_pos a];exact .inr ⟨_,fun _=>rfl⟩
 ·simp only[if_neg a]
  by_cases b:(lies (M.Hp h).base A c (M.Hp h).len&&(!s||(M.Hp h).wr))=true
  ·simp only[if_pos b]
   cases s with
   |true=>exact .inl ⟨_,fun _=>rfl,(Kv _ _ _ _ _).1,(Kv _ _ _ _ _).2⟩
   |false=>exact .inl ⟨_,fun _=>rfl,rfl,rfl⟩
  ·simp only[if_neg b];exact .inr ⟨_,fun _=>rfl⟩
theorem Oh(b:Bool)(M a:MV)(c:a.st=M.st)(d:a.pc=M.pc):Plain M (fun e=>if b then .done a e else .flt M):=by
 cases b
 ·exact .inr ⟨M,fun _=>rfl⟩
 ·exact .inl ⟨a,fun _=>rfl,c,d⟩
theorem Vx(c d a b h:Nat)(e:Int)(M:MV)(k:1<=c)(l:c<=28):Plain M (exec c d a b h e M):=by
 have j:c=1∨c=2∨c=3∨c=4∨c=5∨c=6∨c=7∨c=8∨c=9∨c=10∨c=11∨c=12∨c=13∨c=14∨c=15∨c=16∨c=17∨c=18∨c=19∨c=20∨c=21∨c=22∨c=23∨c=24∨c=25∨c=26∨c=27∨c=28:=AB;rcases j with rfl|rfl|rfl|rfl|rfl|rfl|rfl|rfl|rfl|rfl|rfl|rfl|rfl|rfl|rfl|rfl|rfl|rfl|rfl|rfl|rfl|rfl|rfl|rfl|rfl|rfl|rfl|rfl;iterate 14 exact .inl ⟨_,fun _=>rfl,rfl,rfl⟩
 ·exact Oh M.hc M _ rfl rfl
 iterate 3 exact .inl ⟨_,fun _=>rfl,rfl,rfl⟩
 ·exact Oh M.hz M _ rfl rfl
 ·exact Oh M.hc M _ rfl rfl
 all_goals exact Ua _ _ _ _ _ _
theorem kN{w:World}{l:Nat}{p:Pl}{M:MV}(h:Mem w l p M){k:Nat}{C:Array Value}{a:Nat}{c:Nat×Nat}(b:w.heap[k]?=some (.cells C a c))(e:a≠45)(j:a≠47)(m:a≠5)(n:a≠213):Off p M.nH M.nO k:=
 ⟨fun q=>Nh h.regs b e (by rw[q];rfl),Nh h.heaps b j,fun i d q=>Nh (h.data i d) b m (by rw[<-q];rfl),Nh h.obs b n⟩
theorem Xc{w:World}{l I s n k Y:Nat}{d:List Value}{p:Pl}{M:MV}(h:Mem w l p M)(c:w.ownsRow I 32 s (Vs k n Y) n d):Off p M.nH M.nO k:=by
 obtain⟨a,b⟩:=gW c rfl;exact kN h b Ad Ad Ad Ad
section
variable{w:World}{base:Nat}{p:Pl}{M:MV}
end
section
variable{w:World}{base:Nat}{p:Pl}{M:MV}
end
section
variable{w:World}{base:Nat}{p:Pl}{M:MV}
end
section
variable{w:World}{base:Nat}{p:Pl}{M:MV}
end
end Go.Proofs.YtjoppncopoampaaGreatDoor
