import Derived.Test.YtpbceodheeepoaaGreatLawParts
namespace Go.Proofs.YtpbceodheeepoaaGreat
open Go.RowKit
theorem MV.Ok.setR{M:MV}(h:M.Ok)(d:Nat){v:Int}(hv:0<=v/\v<=18446744073709551615):(M.setR d v).Ok:=
 ⟨fun i hi=>by
   show 0<=(if i=d then v else M.R i)/\(if i=d then v else M.R i)<=18446744073709551615;split
   ·exact hv
   ·exact h.reg i hi,h.heaps,h.heap,h.dat⟩
theorem MV.Ok.seen{M:MV}(h:M.Ok)(k v:Int):(M.see k v).Ok:=⟨h.reg,h.heaps,h.heap,h.dat⟩
theorem MV.Ok.flagged{M:MV}(h:M.Ok)(r:Int)(k:Bool):(M.flags r k).Ok:=⟨h.reg,h.heaps,h.heap,h.dat⟩
theorem MV.Ok.faulted{M:MV}(h:M.Ok):M.fault.Ok:=⟨h.reg,h.heaps,h.heap,h.dat⟩
theorem MV.Ok.poke{M:MV}(h:M.Ok)(k j:Nat){u:Int}(hu:0<=u/\u<=255):(M.poke k j u).Ok:=by
 have hl:∀i,((M.poke k j u).Hp i).base=(M.Hp i).base/\((M.poke k j u).Hp i).len=(M.Hp i).len:=fun i=>by
  unfold MV.poke;by_cases e:i=k<;>simp[e]
 refine⟨h.reg,h.heaps,fun i hi=>?_,fun i hi q hq=>?_⟩
 ·rw[(hl i).1,(hl i).2];exact h.heap i hi
 ·rw[(hl i).2]at hq
  have:=h.dat i hi q hq;unfold MV.poke;by_cases e:i=k
  ·by_cases e2:q=j
   ·simp[e,e2];exact hu
   ·simp only[e,if_true,e2,if_false];rw[<-e];exact this
  ·simp only[e,if_false];exact this
theorem MV.Ok.pokeN{M:MV}(h:M.Ok)(k o:Nat)(v:Int):∀n,(M.pokeN k o v n).Ok
 |0=>h
 |n+1=>(MV.Ok.pokeN h k o v n).poke k (o+n) (by omega)
def okO:Outc->Prop
 |.inl (M',_)=>M'.Ok
 |.inr M'=>M'.Ok
theorem memOp_ok{M:MV}(hk:M.Ok)(s:Bool)(wd:Nat)(hw:wd<=8)(A:Int)(d h:Nat)(nx:Int):okO (memOp s wd A d h M nx):=by
 unfold memOp;by_cases h1:M.nH<=h
 ·rw[if_pos h1];exact hk.seen _ _
 ·rw[if_neg h1]
  by_cases h2:(lies (M.Hp h).base A wd (M.Hp h).len&&(!s||(M.Hp h).wr))=true
  ·rw[if_pos h2]
   cases s with
   |true=>exact(hk.seen _ _).pokeN _ _ _ _
   |false=>
    refine(hk.seen 1 A).setR d ?_;have hl:lies (M.Hp h).base A wd (M.Hp h).len=true:=by simp only[Bool.and_eq_true]at h2;exact h2.1
    have hr:=loadV_range (M.Hp h).dat (A-(M.Hp h).base).toNat wd fun j hj=>hk.dat h (by omega) _ (by
     unfold lies at hl;simp only[Bool.and_eq_true,decide_eq_true_eq]at hl;omega)
    refine⟨hr.1,?_⟩;have:(2:Int)^(8*wd)<=2^64:=by
     have hn:(2:Nat)^(8*wd)<=2^64:=Nat.pow_le_pow_right (by decide) (by omega);exact_mod_cast hn
    have h64:(2:Int)^64=18446744073709551616:=by decide
    have:=hr.2;omega
  ·rw[if_neg h2];exact hk.seen _ _
theorem jumpOp_ok{M:MV}(hk:M.Ok)(a b c:Bool)(imm nx:Int):okO (jumpOp a b c imm M nx):=by
 unfold jumpOp;split
 ·split
  ·exact hk.seen _ _
  ·exact hk.seen _ _
 ·exact hk
theorem wadd_range(x y c:Int):0<=wadd x y c/\wadd x y c<=18446744073709551615:=by unfold wadd;omega
theorem wsub_range(x y:Int):0<=wsub x y/\wsub x y<=18446744073709551615:=by
 rw[<-sub_wsub];exact wrap_range _
theorem ediv_range{x y:Int}(h:0<=x/\x<=18446744073709551615)(hy:0<=y):0<=x/y/\x/y<=18446744073709551615:=
 ⟨Int.ediv_nonneg h.1 hy,Int.le_trans (Int.ediv_le_self _ h.1) h.2⟩
theorem exec_ok{M:MV}(hk:M.Ok)(op d a b h:Nat)(imm nx:Int)(ha:a<8)(hb:b<8):okO (exec op d a b h imm M nx):=by
 have ra:=hk.reg a ha;have rb:=hk.reg b hb;unfold exec;split;all_goals first
  |exact memOp_ok hk _ _ (by decide) _ _ _ _
  |exact jumpOp_ok hk _ _ _ _ _
  |exact hk.setR _ ra
  |exact hk.setR _ (wrap_range _)
  |exact(hk.setR _ (wadd_range _ _ _)).flagged _ _
  |exact(hk.flagged _ _).setR _ (wsub_range _ _)
  |exact hk.flagged _ _
  |exact hk.setR _ (ediv_range ra (Int.le_of_lt (Int.pow_pos (by decide))))
  |exact⟨hk.reg,hk.heaps,hk.heap,hk.dat⟩
  |skip
 ·refine(hk.seen _ _).setR _ ?_
  split
  ·decide
  ·exact ediv_range ra rb.1
 all_goals
  split
  ·first
    |exact(hk.setR _ (wadd_range _ _ _)).flagged _ _
    |(refine hk.setR _ ?_
      split
      ·exact ra
      ·exact rb)
  ·exact hk
def runM(len:Nat)(F:Nat->Nat->Int):Nat->MV->MV
 |0,M=>M
 |k+1,M=>if M.st=0 then runM len F k (stepM len F M)else M
theorem runM_stop(len:Nat)(F:Nat->Nat->Int)(k:Nat){M:MV}(h:M.st≠0):runM len F k M=M:=by
 cases k with
 |zero=>rfl
 |succ k=>show(if M.st=0 then _ else M)=M;rw[if_neg h]
theorem runM_step(len:Nat)(F:Nat->Nat->Int)(k:Nat){M:MV}(h:M.st=0):runM len F (k+1) M=runM len F k (stepM len F M):=by
 show(if M.st=0 then _ else M)=_;rw[if_pos h]
theorem ins_jump{op d a b imm h:Int}(hi:implIns op d a b imm h=true)(ho:29<=op/\op<=33):0<=imm:=by
 unfold implIns at hi;simp only[Bool.and_eq_true]at hi;obtain⟨⟨_,h5⟩,_⟩:=hi;have hl:immLo op=0:=by unfold immLo;rw[if_pos (by omega)]
 rw[hl]at h5;unfold fieldB inB at h5;split at h5
 ·simp only[Bool.and_eq_true,decide_eq_true_eq]at h5;exact h5.1
 ·simp only[beq_iff_eq]at h5;omega
def pcO:Outc->Prop
 |.inl (_,n)=>0<=n
 |.inr M'=>0<=M'.pc
theorem memOp_pc(s:Bool)(wd:Nat)(A:Int)(d h:Nat)(M:MV)(nx:Int)(h0:0<=nx)(hp:0<=M.pc):pcO (memOp s wd A d h M nx):=by
 unfold memOp;split
 ·exact hp
 ·split
  ·split
   ·exact h0
   ·exact h0
  ·exact hp
theorem jumpOp_pc(a b c:Bool)(imm:Int)(M:MV)(nx:Int)(h0:0<=nx)(hp:0<=M.pc)(hi:0<=imm):pcO (jumpOp a b c imm M nx):=by
 unfold jumpOp;split
 ·split
  ·exact hi
  ·exact h0
 ·exact hp
theorem exec_pc(op d a b h:Nat)(imm:Int)(M:MV)(nx:Int)(h0:0<=nx)(hp:0<=M.pc)(hj:(29<=op/\op<=33)->0<=imm):pcO (exec op d a b h imm M nx):=by
 unfold exec;split;all_goals first
  |exact h0
  |exact memOp_pc _ _ _ _ _ _ _ h0 hp
  |exact jumpOp_pc _ _ _ _ _ _ h0 hp (hj (by decide))
  |exact hj (by decide)
  |exact hp
  |(split
    ·exact h0
    ·exact hp)
structure Going(M:MV)(n:Nat):Prop where
 ok:M.Ok
 pc:0<=M.pc
 seen:M.nO<=n
theorem ins_at{len:Nat}{F:Nat->Nat->Int}(hf:flatOK len F=true){q:Nat}(hq:q<len):implIns (F q 0) (F q 1) (F q 2) (F q 3) (F q 4) (F q 5)=true:=by
 unfold flatOK at hf;simp only[Bool.and_eq_true,decide_eq_true_eq,List.all_eq_true,List.mem_range]at hf;have:=hf.1.2 q hq;unfold flatAt at this;simp only[Bool.and_eq_true]at this;exact this.1
theorem stepM_going{len:Nat}{F:Nat->Nat->Int}(hf:flatOK len F=true){M:MV}{n:Nat}(h:Going M n):Going (stepM len F M) (n+1):=by
 by_cases hpc:(len:Int)<=M.pc
 ·have:stepM len F M=M.fault:=by unfold stepM;rw[if_pos hpc]
  rw[this];exact⟨h.ok.faulted,h.pc,Nat.le_succ_of_le h.seen⟩
 ·have hs:=(stepM_sz len F M).2.2
  refine⟨?_,?_,by have:=h.seen;omega⟩;all_goals
   rw[stepM_in len F M hpc];have hp:=h.pc;have hi:=ins_at hf (q:=M.pc.toNat) (by omega);obtain⟨⟨a1,a2⟩,⟨d1,d2⟩,⟨x1,x2⟩,⟨y1,y2⟩,⟨z1,z2⟩⟩:=ins_range hi;have ho:=exec_ok h.ok (F M.pc.toNat 0).toNat (F M.pc.toNat 1).toNat (F M.pc.toNat 2).toNat (F M.pc.toNat 3).toNat (F M.pc.toNat 5).toNat (F M.pc.toNat 4) (M.pc+1) (by omega) (by omega);have hq:=exec_pc (F M.pc.toNat 0).toNat (F M.pc.toNat 1).toNat (F M.pc.toNat 2).toNat (F M.pc.toNat 3).toNat (F M.pc.toNat 5).toNat (F M.pc.toNat 4) M (M.pc+1) (by omega) hp (fun hj=>ins_jump hi (by omega));generalize exec (F M.pc.toNat 0).toNat (F M.pc.toNat 1).toNat (F M.pc.toNat 2).toNat (F M.pc.toNat 3).toNat (F M.pc.toNat 5).toNat (F M.pc.toNat 4) M (M.pc+1)=o at ho hq
  ·cases o with
   |inl q=>obtain⟨M',nx⟩:=q;exact⟨ho.reg,ho.heaps,ho.heap,ho.dat⟩
   |inr M'=>exact MV.Ok.faulted ho
  ·cases o with
   |inl q=>obtain⟨M',nx⟩:=q;exact hq
   |inr M'=>exact hq
theorem runM_sz(len:Nat)(F:Nat->Nat->Int):∀(k:Nat)(M:MV),(runM len F k M).nH=M.nH/\(∀i,((runM len F k M).Hp i).len=(M.Hp i).len)/\(runM len F k M).nO<=M.nO+k
 |0,M=>⟨rfl,fun _=>rfl,Nat.le_refl _⟩
 |k+1,M=>by
  by_cases h:M.st=0
  ·rw[runM_step len F k h]
   have h1:=runM_sz len F k (stepM len F M);have h2:=stepM_sz len F M;exact⟨h1.1.trans h2.1,fun i=>(h1.2.1 i).trans (h2.2.1 i),by have:=h1.2.2;have:=h2.2.2;omega⟩
  ·rw[runM_stop len F (k+1) h]
   exact⟨rfl,fun _=>rfl,Nat.le_add_right _ _⟩
def runA(len:Nat)(F:Nat->Nat->Int)(nR:Nat)(M:MV)(steps:Int):Option MV:=
 if flatOK len F&&machOK nR M.z M.c M.hz M.hc M.nH M.Hp M.pc M.st M.nO M.K&&(inB steps 0 100000&&decide (M.nO<=100000))then some (runM len F steps.toNat M)else none
theorem runA_small(len:Nat)(F:Nat->Nat->Int)(nR:Nat)(M:MV)(steps:Int):SmallA (runA len F nR M steps):=by
 unfold runA;cases h:(flatOK len F&&machOK nR M.z M.c M.hz M.hc M.nH M.Hp M.pc M.st M.nO M.K&&(inB steps 0 100000&&decide (M.nO<=100000)))with
 |false=>exact trivial
 |true=>
  simp only[Bool.and_eq_true]at h;obtain⟨_,h2,h3,_,h5⟩:=mach_facts h.1.2;have hs:steps<=100000:=by have:=h.2.1;unfold inB at this;simp only[Bool.and_eq_true,decide_eq_true_eq]at this;exact this.2
  rw[if_pos rfl];have hz:=runM_sz len F steps.toNat M;exact⟨by decide,by rw[hz.1];omega,fun i hi=>by rw[hz.2.1 i];have:=(h3 i (by rw[<-hz.1];exact hi)).2.1;omega,by have:=hz.2.2;omega⟩
end Go.Proofs.YtpbceodheeepoaaGreat
