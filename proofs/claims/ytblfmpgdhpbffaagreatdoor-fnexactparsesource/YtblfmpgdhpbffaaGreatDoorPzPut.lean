import Derived.Test.YtblfmpgdhpbffaaGreatDoorOfPzCell
import Derived.Test.YtblfmpgdhpbffaaGreatDoorOfPzBody
set_option maxHeartbeats 6400000
set_option maxRecDepth 20000
namespace Go.Proofs.YtblfmpgdhpbffaaGreatDoor
open Go.RowKit
theorem info_stmtZ:(Tryz.prog.info? 93).map (fun i=>(i.zero,i.size,i.bytes))=some (some (.agg #[.int .i64 0,.int .i64 0,.int .i64 0,.int .i64 0,.int .i64 0,.int .i64 0,.int .i64 0,.int .i64 0,.int .i64 0,.int .i64 0,.int .i64 0]),11,88):=by kernel_rfl
theorem MS.last{w:World}{B:Nat}{S:PS}{sH sR sP sN sO:Sl}{bv:List Value}(h:MS w B S sH sR sP sN sO bv)(h3:S.st=3):
 ∃(ib:List Value)(g:Nat)(aB:Option Addr)(cB:Nat),bv=ib++[.slice aB (bodS S).length cB]/\S.ps=S.ps.dropLast++[bodS S]/\ib.length=S.ps.dropLast.length/\sP.a=some ⟨g,0,none⟩/\sP.n=ib.length+1/\sP.n<=sP.c/\w.cell? ⟨g,ib.length,none⟩=some (.slice aB (bodS S).length cB)/\g<w.heap.size:=h.R.last h.L (h.I.ps h3)
theorem Inv.add{S:PS}(h:Inv S)(s:SV)(h3:S.st=3):Inv (addS S s):=h.put (bodS S++[s]) S.op h3 (fun o ho=>by have:=h.ol o ho;simp;omega) h.od
theorem MS0.put{w w5:World}{B g cP cB:Nat}{S:PS}{sH sR sN sO:Sl}{ib:List Value}{aB:Option Addr}{v':Value}{b':List SV}(h:MS0 w B S sH sR ⟨some ⟨g,0,none⟩,ib.length+1,cP⟩ sN sO (ib++[.slice aB (bodS S).length cB]))(hps:S.ps=S.ps.dropLast++[bodS S])(hil:ib.length=S.ps.dropLast.length)(hg:w.grownBy w5 (Value.slice aB (bodS S).length cB).ownBlock)(ho:w5.ownsRow B 93 11 v' b'.length (cs b'))(ha:v'.ownBlock=(Value.slice aB (bodS S).length cB).ownBlock∨∃k,v'.ownBlock=some k/\w.heap.size<=k)(hI:Inv (putS S b')):
 MS (w5.setCell ⟨g,ib.length,none⟩ v') B (putS S b') sH sR ⟨some ⟨g,0,none⟩,ib.length+1,cP⟩ sN sO (ib++[v'])/\w5.cell? ⟨g,ib.length,none⟩=some (.slice aB (bodS S).length cB)/\w5.frozen? ⟨g,ib.length,none⟩=false/\(B<=w5.heap.size->Fm tsM B w5 (w5.setCell ⟨g,ib.length,none⟩ v')):=by
 have hR:=h.R;dsimp only at hR;rw[hps]at hR;obtain⟨h1,h2,h3,h4,h5,h6⟩:=hR.body hil hg ho ha;refine⟨⟨h1,?_,hI⟩,h2,h3,fun hB=>Fm.of_grow h6 (Nat.le_refl _) h5 hB (by decide)⟩;show _=(S.ps.dropLast++[b']).length;rw[List.length_append,List.length_append,hil];rfl
theorem l6Put_any(B:Nat)(S:PS)(sH sR sP sN sO:Sl)(bv:List Value)(s:SV)(w:World)(hB:B<=w.heap.size)(hm:MS0 w B S sH sR sP sN sO bv)(hne:S.ps≠[])(hI:Inv (addS S s))(hl:(bodS S).length<=1000000)(hp:S.ps.length<=1000000):
 Calls Tryz.prog 49 #[.agg #[.int .i64 S.d,.slice sH.a sH.n sH.c,.slice sR.a sR.n sR.c,.slice sP.a sP.n sP.c,.int .i64 (S.st:Int),.slice sN.a sN.n sN.c,.slice sO.a sO.n sO.c,.bool false],.agg #[.int .i64 s.k,.int .i64 s.op,.int .i64 s.d,.int .i64 s.a,.int .i64 s.b,.int .i64 s.imm,.int .i64 s.h,.int .i64 s.cond,.int .i64 s.thn,.int .i64 s.els,.int .i64 s.proc]] w fun e w'=>∃bv',Fm tsM B w w'/\e=.returned (.agg #[.int .i64 S.d,.slice sH.a sH.n sH.c,.slice sR.a sR.n sR.c,.slice sP.a sP.n sP.c,.int .i64 (S.st:Int),.slice sN.a sN.n sN.c,.slice sO.a sO.n sO.c,.bool false])/\MS w' B (addS S s) sH sR sP sN sO bv':=by
 obtain⟨ib,g,aB,cB,hbv,hps,hil,hPa,hPn,hPc,hcl,hg⟩:=hm.R.last hm.L hne
 change S.ps=S.ps.dropLast++[bodS S]at hps
 obtain⟨aP,nP,cP⟩:=sP
 dsimp only at hPa hPn hPc⊢
 subst hPa hPn hbv
 have hi6:ib.length+1<=1000000:=by have:=hm.L;simp at this;omega
 have M:Hid (MS0 w B S sH sR ⟨some ⟨g,0,none⟩,ib.length+1,cP⟩ sN sO (ib++[.slice aB (bodS S).length cB])):=hm
 have HI:Hid (Inv (addS S s)):=hI
 have HPS:Hid (S.ps=S.ps.dropLast++[bodS S]):=hps
 have HIL:Hid (ib.length=S.ps.dropLast.length):=hil
 obtain⟨iS,gS,gS0,gS1,gS2⟩:=info4 info_stmtZ
 have HIS:Hid (_/\_/\_/\_):=⟨gS,gS0,gS1,gS2⟩
 have ea:((ib.length+1:Nat):Int)-1=(ib.length:Int):=by omega
 have ew:IntKind.i64.wrap (ib.length:Int)=(ib.length:Int):=by rw[IntKind.wrap_i64];omega
 have eb:(ib.length:Int)<(ib.length:Int)+1:=by omega
 clear hm hI hne hps hil gS gS0 gS1 gS2 hp
 go_enter Tryz.func49,Tryz.ntmps49
 go_upto_region 1 with fail
 obtain⟨u,hu,bu,t0⟩:∃y,(((w.alloc (.cells #[.int .i64 S.d,.slice sH.a sH.n sH.c,.slice sR.a sR.n sR.c,.slice (some ⟨g,0,none⟩) (ib.length+1) cP,.int .i64 (S.st:Int),.slice sN.a sN.n sN.c,.slice sO.a sO.n sO.c,.bool false] 45)).alloc (.cells #[.int .i64 s.k,.int .i64 s.op,.int .i64 s.d,.int .i64 s.a,.int .i64 s.b,.int .i64 s.imm,.int .i64 s.h,.int .i64 s.cond,.int .i64 s.thn,.int .i64 s.els,.int .i64 s.proc] 93)).alloc (.cells #[.int .i64 0,.slice none 0 0,.slice none 0 0,.slice none 0 0,.int .i64 0,.slice none 0 0,.slice none 0 0,.bool false] 45))=y/\Below w.heap.size w y/\(PX w.heap.size (w.heap.size+2) #[.int .i64 S.d,.slice sH.a sH.n sH.c,.slice sR.a sR.n sR.c,.slice (some ⟨g,0,none⟩) (ib.length+1) cP,.int .i64 (S.st:Int),.slice sN.a sN.n sN.c,.slice sO.a sO.n sO.c,.bool false] #[.int .i64 0,.slice none 0 0,.slice none 0 0,.slice none 0 0,.int .i64 0,.slice none 0 0,.slice none 0 0,.bool false] y/\Cl y (w.heap.size+1) [.int .i64 s.k,.int .i64 s.op,.int .i64 s.d,.int .i64 s.a,.int .i64 s.b,.int .i64 s.imm,.int .i64 s.h,.int .i64 s.cond,.int .i64 s.thn,.int .i64 s.els,.int .i64 s.proc]/\y.cell? ⟨g,ib.length,none⟩=some (.slice aB (bodS S).length cB)):=by
  refine⟨_,rfl,((((Below.refl _ _).alloc (Nat.le_refl _) _).alloc (by simp) _).alloc (by simp;omega) _),⟨?_,?_,?_⟩,?_,?_⟩
  ·refine(Below.heap_alloc _ _ _ (by simp;omega)).trans ((Below.heap_alloc _ _ _ (by simp)).trans (heap_alloc_newB w _))
  ·have e1:((w.alloc (.cells #[.int .i64 S.d,.slice sH.a sH.n sH.c,.slice sR.a sR.n sR.c,.slice (some ⟨g,0,none⟩) (ib.length+1) cP,.int .i64 (S.st:Int),.slice sN.a sN.n sN.c,.slice sO.a sO.n sO.c,.bool false] 45)).alloc (.cells #[.int .i64 s.k,.int .i64 s.op,.int .i64 s.d,.int .i64 s.a,.int .i64 s.b,.int .i64 s.imm,.int .i64 s.h,.int .i64 s.cond,.int .i64 s.thn,.int .i64 s.els,.int .i64 s.proc] 93)).heap.size=w.heap.size+2:=by simp
   rw[<-e1]
   exact heap_alloc_newB _ _
  ·omega
  ·have e1:(w.alloc (.cells #[.int .i64 S.d,.slice sH.a sH.n sH.c,.slice sR.a sR.n sR.c,.slice (some ⟨g,0,none⟩) (ib.length+1) cP,.int .i64 (S.st:Int),.slice sN.a sN.n sN.c,.slice sO.a sO.n sO.c,.bool false] 45)).heap.size=w.heap.size+1:=by simp
   have q:Cl ((w.alloc (.cells #[.int .i64 S.d,.slice sH.a sH.n sH.c,.slice sR.a sR.n sR.c,.slice (some ⟨g,0,none⟩) (ib.length+1) cP,.int .i64 (S.st:Int),.slice sN.a sN.n sN.c,.slice sO.a sO.n sO.c,.bool false] 45)).alloc (.cells #[.int .i64 s.k,.int .i64 s.op,.int .i64 s.d,.int .i64 s.a,.int .i64 s.b,.int .i64 s.imm,.int .i64 s.h,.int .i64 s.cond,.int .i64 s.thn,.int .i64 s.els,.int .i64 s.proc] 93)) (w.alloc (.cells #[.int .i64 S.d,.slice sH.a sH.n sH.c,.slice sR.a sR.n sR.c,.slice (some ⟨g,0,none⟩) (ib.length+1) cP,.int .i64 (S.st:Int),.slice sN.a sN.n sN.c,.slice sO.a sO.n sO.c,.bool false] 45)).heap.size [.int .i64 s.k,.int .i64 s.op,.int .i64 s.d,.int .i64 s.a,.int .i64 s.b,.int .i64 s.imm,.int .i64 s.h,.int .i64 s.cond,.int .i64 s.thn,.int .i64 s.els,.int .i64 s.proc]:=Cl.new
   rw[e1]at q
   exact q.below ((Below.refl _ _).alloc (Nat.le_refl _) _)
  ·exact((((Below.refl _ _).alloc (Nat.le_refl _) _).alloc (by simp) _).alloc (by simp;omega) _:Below w.heap.size w _).cell (p:=⟨g,ib.length,none⟩) hg|>.trans hcl
 rw[hu]
 obtain⟨x,hx⟩:∃y,w.heap.size=y:=⟨_,rfl⟩
 rw[hx]at t0⊢
 have HX:Hid (w.heap.size=x):=hx
 have hBx:B<=x:=by omega
 have hgx:g<x:=by omega
 have TD:PX x (x+2) #[.int .i64 S.d,.slice sH.a sH.n sH.c,.slice sR.a sR.n sR.c,.slice (some ⟨g,0,none⟩) (ib.length+1) cP,.int .i64 (S.st:Int),.slice sN.a sN.n sN.c,.slice sO.a sO.n sO.c,.bool false] #[.int .i64 0,.slice none 0 0,.slice none 0 0,.slice none 0 0,.int .i64 0,.slice none 0 0,.slice none 0 0,.bool false] u.drew/\Cl u.drew (x+1) [.int .i64 s.k,.int .i64 s.op,.int .i64 s.d,.int .i64 s.a,.int .i64 s.b,.int .i64 s.imm,.int .i64 s.h,.int .i64 s.cond,.int .i64 s.thn,.int .i64 s.els,.int .i64 s.proc]/\u.drew.cell? ⟨g,ib.length,none⟩=some (.slice aB (bodS S).length cB):=⟨t0.1.below (Below.refl _ _).drew,t0.2.1.below (Below.refl _ _).drew,t0.2.2⟩
 have MD:Hid (MS0 u.drew B S sH sR ⟨some ⟨g,0,none⟩,ib.length+1,cP⟩ sN sO (ib++[.slice aB (bodS S).length cB])):=(M.out.below bu).below (Below.refl _ _).drew
 have FD:Hid (Fm tsM B w u.drew):=(Fm.of_below bu hB).below (Below.refl _ _).drew (by have:=bu.size;omega)
 have hBd:B<=u.drew.heap.size:=by have:=bu.size;show B<=u.heap.size;omega
 have hgd:g<u.drew.heap.size:=by have:=bu.size;show g<u.heap.size;omega
 have NE:Hid (∀k,(Value.slice aB (bodS S).length cB).ownBlock=some k->k<x):=(fun k hk=>by
  have hR:=M.out.R
  dsimp only at hR
  rw[HPS.out]at hR
  have:=(hR.own _ _ (srcR_last HIL.out)).lt k hk
  have:=HX.out
  omega:∀k,(Value.slice aB (bodS S).length cB).ownBlock=some k->k<x)
 clear hu bu t0 hx hcl hg M
 have r0:∀w':World,(PX x (x+2) #[.int .i64 S.d,.slice sH.a sH.n sH.c,.slice sR.a sR.n sR.c,.slice (some ⟨g,0,none⟩) (ib.length+1) cP,.int .i64 (S.st:Int),.slice sN.a sN.n sN.c,.slice sO.a sO.n sO.c,.bool false] #[.int .i64 0,.slice none 0 0,.slice none 0 0,.slice none 0 0,.int .i64 0,.slice none 0 0,.slice none 0 0,.bool false] w'/\Cl w' (x+1) [.int .i64 s.k,.int .i64 s.op,.int .i64 s.d,.int .i64 s.a,.int .i64 s.b,.int .i64 s.imm,.int .i64 s.h,.int .i64 s.cond,.int .i64 s.thn,.int .i64 s.els,.int .i64 s.proc]/\w'.cell? ⟨g,ib.length,none⟩=some (.slice aB (bodS S).length cB))->w'.cell? ⟨x,3,none⟩=some (.slice (some ⟨g,0,none⟩) (ib.length+1) cP):=fun w' h=>hp_cell h.1.P 3
 have r1:∀w':World,(PX x (x+2) #[.int .i64 S.d,.slice sH.a sH.n sH.c,.slice sR.a sR.n sR.c,.slice (some ⟨g,0,none⟩) (ib.length+1) cP,.int .i64 (S.st:Int),.slice sN.a sN.n sN.c,.slice sO.a sO.n sO.c,.bool false] #[.int .i64 0,.slice none 0 0,.slice none 0 0,.slice none 0 0,.int .i64 0,.slice none 0 0,.slice none 0 0,.bool false] w'/\Cl w' (x+1) [.int .i64 s.k,.int .i64 s.op,.int .i64 s.d,.int .i64 s.a,.int .i64 s.b,.int .i64 s.imm,.int .i64 s.h,.int .i64 s.cond,.int .i64 s.thn,.int .i64 s.els,.int .i64 s.proc]/\w'.cell? ⟨g,ib.length,none⟩=some (.slice aB (bodS S).length cB))->w'.cell? ⟨x,0,none⟩=some (.int .i64 S.d):=fun w' h=>hp_cell h.1.P 0
 have r2:∀w':World,(PX x (x+2) #[.int .i64 S.d,.slice sH.a sH.n sH.c,.slice sR.a sR.n sR.c,.slice (some ⟨g,0,none⟩) (ib.length+1) cP,.int .i64 (S.st:Int),.slice sN.a sN.n sN.c,.slice sO.a sO.n sO.c,.bool false] #[.int .i64 0,.slice none 0 0,.slice none 0 0,.slice none 0 0,.int .i64 0,.slice none 0 0,.slice none 0 0,.bool false] w'/\Cl w' (x+1) [.int .i64 s.k,.int .i64 s.op,.int .i64 s.d,.int .i64 s.a,.int .i64 s.b,.int .i64 s.imm,.int .i64 s.h,.int .i64 s.cond,.int .i64 s.thn,.int .i64 s.els,.int .i64 s.proc]/\w'.cell? ⟨g,ib.length,none⟩=some (.slice aB (bodS S).length cB))->w'.cell? ⟨x,1,none⟩=some (.slice sH.a sH.n sH.c):=fun w' h=>hp_cell h.1.P 1
 have r3:∀w':World,(PX x (x+2) #[.int .i64 S.d,.slice sH.a sH.n sH.c,.slice sR.a sR.n sR.c,.slice (some ⟨g,0,none⟩) (ib.length+1) cP,.int .i64 (S.st:Int),.slice sN.a sN.n sN.c,.slice sO.a sO.n sO.c,.bool false] #[.int .i64 0,.slice none 0 0,.slice none 0 0,.slice none 0 0,.int .i64 0,.slice none 0 0,.slice none 0 0,.bool false] w'/\Cl w' (x+1) [.int .i64 s.k,.int .i64 s.op,.int .i64 s.d,.int .i64 s.a,.int .i64 s.b,.int .i64 s.imm,.int .i64 s.h,.int .i64 s.cond,.int .i64 s.thn,.int .i64 s.els,.int .i64 s.proc]/\w'.cell? ⟨g,ib.length,none⟩=some (.slice aB (bodS S).length cB))->w'.cell? ⟨x,2,none⟩=some (.slice sR.a sR.n sR.c):=fun w' h=>hp_cell h.1.P 2
 have r4:∀w':World,(PX x (x+2) #[.int .i64 S.d,.slice sH.a sH.n sH.c,.slice sR.a sR.n sR.c,.slice (some ⟨g,0,none⟩) (ib.length+1) cP,.int .i64 (S.st:Int),.slice sN.a sN.n sN.c,.slice sO.a sO.n sO.c,.bool false] #[.int .i64 0,.slice none 0 0,.slice none 0 0,.slice none 0 0,.int .i64 0,.slice none 0 0,.slice none 0 0,.bool false] w'/\Cl w' (x+1) [.int .i64 s.k,.int .i64 s.op,.int .i64 s.d,.int .i64 s.a,.int .i64 s.b,.int .i64 s.imm,.int .i64 s.h,.int .i64 s.cond,.int .i64 s.thn,.int .i64 s.els,.int .i64 s.proc]/\w'.cell? ⟨g,ib.length,none⟩=some (.slice aB (bodS S).length cB))->w'.cell? ⟨x,4,none⟩=some (.int .i64 (S.st:Int)):=fun w' h=>hp_cell h.1.P 4
 have r5:∀w':World,(PX x (x+2) #[.int .i64 S.d,.slice sH.a sH.n sH.c,.slice sR.a sR.n sR.c,.slice (some ⟨g,0,none⟩) (ib.length+1) cP,.int .i64 (S.st:Int),.slice sN.a sN.n sN.c,.slice sO.a sO.n sO.c,.bool false] #[.int .i64 0,.slice none 0 0,.slice none 0 0,.slice none 0 0,.int .i64 0,.slice none 0 0,.slice none 0 0,.bool false] w'/\Cl w' (x+1) [.int .i64 s.k,.int .i64 s.op,.int .i64 s.d,.int .i64 s.a,.int .i64 s.b,.int .i64 s.imm,.int .i64 s.h,.int .i64 s.cond,.int .i64 s.thn,.int .i64 s.els,.int .i64 s.proc]/\w'.cell? ⟨g,ib.length,none⟩=some (.slice aB (bodS S).length cB))->w'.cell? ⟨x,5,none⟩=some (.slice sN.a sN.n sN.c):=fun w' h=>hp_cell h.1.P 5
 have r6:∀w':World,(PX x (x+2) #[.int .i64 S.d,.slice sH.a sH.n sH.c,.slice sR.a sR.n sR.c,.slice (some ⟨g,0,none⟩) (ib.length+1) cP,.int .i64 (S.st:Int),.slice sN.a sN.n sN.c,.slice sO.a sO.n sO.c,.bool false] #[.int .i64 0,.slice none 0 0,.slice none 0 0,.slice none 0 0,.int .i64 0,.slice none 0 0,.slice none 0 0,.bool false] w'/\Cl w' (x+1) [.int .i64 s.k,.int .i64 s.op,.int .i64 s.d,.int .i64 s.a,.int .i64 s.b,.int .i64 s.imm,.int .i64 s.h,.int .i64 s.cond,.int .i64 s.thn,.int .i64 s.els,.int .i64 s.proc]/\w'.cell? ⟨g,ib.length,none⟩=some (.slice aB (bodS S).length cB))->w'.cell? ⟨x,6,none⟩=some (.slice sO.a sO.n sO.c):=fun w' h=>hp_cell h.1.P 6
 have r7:∀w':World,(PX x (x+2) #[.int .i64 S.d,.slice sH.a sH.n sH.c,.slice sR.a sR.n sR.c,.slice (some ⟨g,0,none⟩) (ib.length+1) cP,.int .i64 (S.st:Int),.slice sN.a sN.n sN.c,.slice sO.a sO.n sO.c,.bool false] #[.int .i64 0,.slice none 0 0,.slice none 0 0,.slice none 0 0,.int .i64 0,.slice none 0 0,.slice none 0 0,.bool false] w'/\Cl w' (x+1) [.int .i64 s.k,.int .i64 s.op,.int .i64 s.d,.int .i64 s.a,.int .i64 s.b,.int .i64 s.imm,.int .i64 s.h,.int .i64 s.cond,.int .i64 s.thn,.int .i64 s.els,.int .i64 s.proc]/\w'.cell? ⟨g,ib.length,none⟩=some (.slice aB (bodS S).length cB))->w'.cell? ⟨x,7,none⟩=some (.bool false):=fun w' h=>hp_cell h.1.P 7
 have r8:∀w':World,(PX x (x+2) #[.int .i64 S.d,.slice sH.a sH.n sH.c,.slice sR.a sR.n sR.c,.slice (some ⟨g,0,none⟩) (ib.length+1) cP,.int .i64 (S.st:Int),.slice sN.a sN.n sN.c,.slice sO.a sO.n sO.c,.bool false] #[.int .i64 0,.slice none 0 0,.slice none 0 0,.slice none 0 0,.int .i64 0,.slice none 0 0,.slice none 0 0,.bool false] w'/\Cl w' (x+1) [.int .i64 s.k,.int .i64 s.op,.int .i64 s.d,.int .i64 s.a,.int .i64 s.b,.int .i64 s.imm,.int .i64 s.h,.int .i64 s.cond,.int .i64 s.thn,.int .i64 s.els,.int .i64 s.proc]/\w'.cell? ⟨g,ib.length,none⟩=some (.slice aB (bodS S).length cB))->w'.cell? ⟨x+1,0,none⟩=some (.int .i64 s.k):=fun w' h=>h.2.1.2 0 (by simp)
 have r9:∀w':World,(PX x (x+2) #[.int .i64 S.d,.slice sH.a sH.n sH.c,.slice sR.a sR.n sR.c,.slice (some ⟨g,0,none⟩) (ib.length+1) cP,.int .i64 (S.st:Int),.slice sN.a sN.n sN.c,.slice sO.a sO.n sO.c,.bool false] #[.int .i64 0,.slice none 0 0,.slice none 0 0,.slice none 0 0,.int .i64 0,.slice none 0 0,.slice none 0 0,.bool false] w'/\Cl w' (x+1) [.int .i64 s.k,.int .i64 s.op,.int .i64 s.d,.int .i64 s.a,.int .i64 s.b,.int .i64 s.imm,.int .i64 s.h,.int .i64 s.cond,.int .i64 s.thn,.int .i64 s.els,.int .i64 s.proc]/\w'.cell? ⟨g,ib.length,none⟩=some (.slice aB (bodS S).length cB))->w'.cell? ⟨x+1,1,none⟩=some (.int .i64 s.op):=fun w' h=>h.2.1.2 1 (by simp)
 have r10:∀w':World,(PX x (x+2) #[.int .i64 S.d,.slice sH.a sH.n sH.c,.slice sR.a sR.n sR.c,.slice (some ⟨g,0,none⟩) (ib.length+1) cP,.int .i64 (S.st:Int),.slice sN.a sN.n sN.c,.slice sO.a sO.n sO.c,.bool false] #[.int .i64 0,.slice none 0 0,.slice none 0 0,.slice none 0 0,.int .i64 0,.slice none 0 0,.slice none 0 0,.bool false] w'/\Cl w' (x+1) [.int .i64 s.k,.int .i64 s.op,.int .i64 s.d,.int .i64 s.a,.int .i64 s.b,.int .i64 s.imm,.int .i64 s.h,.int .i64 s.cond,.int .i64 s.thn,.int .i64 s.els,.int .i64 s.proc]/\w'.cell? ⟨g,ib.length,none⟩=some (.slice aB (bodS S).length cB))->w'.cell? ⟨x+1,2,none⟩=some (.int .i64 s.d):=fun w' h=>h.2.1.2 2 (by simp)
 have r11:∀w':World,(PX x (x+2) #[.int .i64 S.d,.slice sH.a sH.n sH.c,.slice sR.a sR.n sR.c,.slice (some ⟨g,0,none⟩) (ib.length+1) cP,.int .i64 (S.st:Int),.slice sN.a sN.n sN.c,.slice sO.a sO.n sO.c,.bool false] #[.int .i64 0,.slice none 0 0,.slice none 0 0,.slice none 0 0,.int .i64 0,.slice none 0 0,.slice none 0 0,.bool false] w'/\Cl w' (x+1) [.int .i64 s.k,.int .i64 s.op,.int .i64 s.d,.int .i64 s.a,.int .i64 s.b,.int .i64 s.imm,.int .i64 s.h,.int .i64 s.cond,.int .i64 s.thn,.int .i64 s.els,.int .i64 s.proc]/\w'.cell? ⟨g,ib.length,none⟩=some (.slice aB (bodS S).length cB))->w'.cell? ⟨x+1,3,none⟩=some (.int .i64 s.a):=fun w' h=>h.2.1.2 3 (by simp)
 have r12:∀w':World,(PX x (x+2) #[.int .i64 S.d,.slice sH.a sH.n sH.c,.slice sR.a sR.n sR.c,.slice (some ⟨g,0,none⟩) (ib.length+1) cP,.int .i64 (S.st:Int),.slice sN.a sN.n sN.c,.slice sO.a sO.n sO.c,.bool false] #[.int .i64 0,.slice none 0 0,.slice none 0 0,.slice none 0 0,.int .i64 0,.slice none 0 0,.slice none 0 0,.bool false] w'/\Cl w' (x+1) [.int .i64 s.k,.int .i64 s.op,.int .i64 s.d,.int .i64 s.a,.int .i64 s.b,.int .i64 s.imm,.int .i64 s.h,.int .i64 s.cond,.int .i64 s.thn,.int .i64 s.els,.int .i64 s.proc]/\w'.cell? ⟨g,ib.length,none⟩=some (.slice aB (bodS S).length cB))->w'.cell? ⟨x+1,4,none⟩=some (.int .i64 s.b):=fun w' h=>h.2.1.2 4 (by simp)
 have r13:∀w':World,(PX x (x+2) #[.int .i64 S.d,.slice sH.a sH.n sH.c,.slice sR.a sR.n sR.c,.slice (some ⟨g,0,none⟩) (ib.length+1) cP,.int .i64 (S.st:Int),.slice sN.a sN.n sN.c,.slice sO.a sO.n sO.c,.bool false] #[.int .i64 0,.slice none 0 0,.slice none 0 0,.slice none 0 0,.int .i64 0,.slice none 0 0,.slice none 0 0,.bool false] w'/\Cl w' (x+1) [.int .i64 s.k,.int .i64 s.op,.int .i64 s.d,.int .i64 s.a,.int .i64 s.b,.int .i64 s.imm,.int .i64 s.h,.int .i64 s.cond,.int .i64 s.thn,.int .i64 s.els,.int .i64 s.proc]/\w'.cell? ⟨g,ib.length,none⟩=some (.slice aB (bodS S).length cB))->w'.cell? ⟨x+1,5,none⟩=some (.int .i64 s.imm):=fun w' h=>h.2.1.2 5 (by simp)
 have r14:∀w':World,(PX x (x+2) #[.int .i64 S.d,.slice sH.a sH.n sH.c,.slice sR.a sR.n sR.c,.slice (some ⟨g,0,none⟩) (ib.length+1) cP,.int .i64 (S.st:Int),.slice sN.a sN.n sN.c,.slice sO.a sO.n sO.c,.bool false] #[.int .i64 0,.slice none 0 0,.slice none 0 0,.slice none 0 0,.int .i64 0,.slice none 0 0,.slice none 0 0,.bool false] w'/\Cl w' (x+1) [.int .i64 s.k,.int .i64 s.op,.int .i64 s.d,.int .i64 s.a,.int .i64 s.b,.int .i64 s.imm,.int .i64 s.h,.int .i64 s.cond,.int .i64 s.thn,.int .i64 s.els,.int .i64 s.proc]/\w'.cell? ⟨g,ib.length,none⟩=some (.slice aB (bodS S).length cB))->w'.cell? ⟨x+1,6,none⟩=some (.int .i64 s.h):=fun w' h=>h.2.1.2 6 (by simp)
 have r15:∀w':World,(PX x (x+2) #[.int .i64 S.d,.slice sH.a sH.n sH.c,.slice sR.a sR.n sR.c,.slice (some ⟨g,0,none⟩) (ib.length+1) cP,.int .i64 (S.st:Int),.slice sN.a sN.n sN.c,.slice sO.a sO.n sO.c,.bool false] #[.int .i64 0,.slice none 0 0,.slice none 0 0,.slice none 0 0,.int .i64 0,.slice none 0 0,.slice none 0 0,.bool false] w'/\Cl w' (x+1) [.int .i64 s.k,.int .i64 s.op,.int .i64 s.d,.int .i64 s.a,.int .i64 s.b,.int .i64 s.imm,.int .i64 s.h,.int .i64 s.cond,.int .i64 s.thn,.int .i64 s.els,.int .i64 s.proc]/\w'.cell? ⟨g,ib.length,none⟩=some (.slice aB (bodS S).length cB))->w'.cell? ⟨x+1,7,none⟩=some (.int .i64 s.cond):=fun w' h=>h.2.1.2 7 (by simp)
 have r16:∀w':World,(PX x (x+2) #[.int .i64 S.d,.slice sH.a sH.n sH.c,.slice sR.a sR.n sR.c,.slice (some ⟨g,0,none⟩) (ib.length+1) cP,.int .i64 (S.st:Int),.slice sN.a sN.n sN.c,.slice sO.a sO.n sO.c,.bool false] #[.int .i64 0,.slice none 0 0,.slice none 0 0,.slice none 0 0,.int .i64 0,.slice none 0 0,.slice none 0 0,.bool false] w'/\Cl w' (x+1) [.int .i64 s.k,.int .i64 s.op,.int .i64 s.d,.int .i64 s.a,.int .i64 s.b,.int .i64 s.imm,.int .i64 s.h,.int .i64 s.cond,.int .i64 s.thn,.int .i64 s.els,.int .i64 s.proc]/\w'.cell? ⟨g,ib.length,none⟩=some (.slice aB (bodS S).length cB))->w'.cell? ⟨x+1,8,none⟩=some (.int .i64 s.thn):=fun w' h=>h.2.1.2 8 (by simp)
 have r17:∀w':World,(PX x (x+2) #[.int .i64 S.d,.slice sH.a sH.n sH.c,.slice sR.a sR.n sR.c,.slice (some ⟨g,0,none⟩) (ib.length+1) cP,.int .i64 (S.st:Int),.slice sN.a sN.n sN.c,.slice sO.a sO.n sO.c,.bool false] #[.int .i64 0,.slice none 0 0,.slice none 0 0,.slice none 0 0,.int .i64 0,.slice none 0 0,.slice none 0 0,.bool false] w'/\Cl w' (x+1) [.int .i64 s.k,.int .i64 s.op,.int .i64 s.d,.int .i64 s.a,.int .i64 s.b,.int .i64 s.imm,.int .i64 s.h,.int .i64 s.cond,.int .i64 s.thn,.int .i64 s.els,.int .i64 s.proc]/\w'.cell? ⟨g,ib.length,none⟩=some (.slice aB (bodS S).length cB))->w'.cell? ⟨x+1,9,none⟩=some (.int .i64 s.els):=fun w' h=>h.2.1.2 9 (by simp)
 have r18:∀w':World,(PX x (x+2) #[.int .i64 S.d,.slice sH.a sH.n sH.c,.slice sR.a sR.n sR.c,.slice (some ⟨g,0,none⟩) (ib.length+1) cP,.int .i64 (S.st:Int),.slice sN.a sN.n sN.c,.slice sO.a sO.n sO.c,.bool false] #[.int .i64 0,.slice none 0 0,.slice none 0 0,.slice none 0 0,.int .i64 0,.slice none 0 0,.slice none 0 0,.bool false] w'/\Cl w' (x+1) [.int .i64 s.k,.int .i64 s.op,.int .i64 s.d,.int .i64 s.a,.int .i64 s.b,.int .i64 s.imm,.int .i64 s.h,.int .i64 s.cond,.int .i64 s.thn,.int .i64 s.els,.int .i64 s.proc]/\w'.cell? ⟨g,ib.length,none⟩=some (.slice aB (bodS S).length cB))->w'.cell? ⟨x+1,10,none⟩=some (.int .i64 s.proc):=fun w' h=>h.2.1.2 10 (by simp)
 refine wp_region_L (T:=fun w'=>PX x (x+2) #[.int .i64 S.d,.slice sH.a sH.n sH.c,.slice sR.a sR.n sR.c,.slice (some ⟨g,0,none⟩) (ib.length+1) cP,.int .i64 (S.st:Int),.slice sN.a sN.n sN.c,.slice sO.a sO.n sO.c,.bool false] #[.int .i64 0,.slice none 0 0,.slice none 0 0,.slice none 0 0,.int .i64 0,.slice none 0 0,.slice none 0 0,.bool false] w'/\Cl w' (x+1) [.int .i64 s.k,.int .i64 s.op,.int .i64 s.d,.int .i64 s.a,.int .i64 s.b,.int .i64 s.imm,.int .i64 s.h,.int .i64 s.cond,.int .i64 s.thn,.int .i64 s.els,.int .i64 s.proc]/\w'.cell? ⟨g,ib.length,none⟩=some (.slice aB (bodS S).length cB)) (s:=15) (by kernel_rfl) TD (fun hHeld=>?_)
 clear TD
 generalize u.drew=t0 at hHeld MD FD hBd hgd⊢
 refine wpAnyL_tk 0 ?k1v rfl ?k1y ?k1r
 case k1y=>(intro w hSw;(try dsimp only at hSw);go_simp;try with_reducible rfl)
 try go_frame
 refine wpAnyL_tk 1 ?k2v rfl ?k2y ?k2r
 case k2y=>(intro w hSw;(try dsimp only at hSw);go_simp;try with_reducible rfl)
 try go_frame
 refine wpAnyL_tk 2 ?k3v rfl ?k3y ?k3r
 case k3y=>(intro w hSw;(try dsimp only at hSw);go_simp;try with_reducible rfl)
 try go_frame
 refine wpAnyL_tk 3 ?k4v rfl ?k4y ?k4r
 case k4y=>(intro w hSw;(try dsimp only at hSw);go_simp;try with_reducible rfl)
 try go_frame
 refine wpAnyL_tk 4 ?k5v rfl ?k5y ?k5r
 case k5y=>(intro w hSw;(try dsimp only at hSw);go_simp;try with_reducible rfl)
 try go_frame
 refine wpAnyL_tk 5 ?k6v rfl ?k6y ?k6r
 case k6y=>(intro w hSw;(try dsimp only at hSw);go_simp;try with_reducible rfl)
 try go_frame
 refine wpAnyL_tk 6 ?k7v rfl ?k7y ?k7r
 case k7y=>(intro w hSw;(try dsimp only at hSw);go_simp;try with_reducible rfl)
 try go_frame
 refine wpAnyL_tk 7 ?k8v rfl ?k8y ?k8r
 case k8y=>(intro w hSw;(try dsimp only at hSw);go_simp;try with_reducible rfl)
 try go_frame
 refine wpAnyL_tk 8 ?k9v rfl ?k9y ?k9r
 case k9y=>(intro w hSw;(try dsimp only at hSw);go_simp;try with_reducible rfl)
 try go_frame
 refine wpAnyL_tk 10 ?k10v rfl ?k10y ?k10r
 case k10y=>(intro w hSw;(try dsimp only at hSw);go_simp;try with_reducible rfl)
 try go_frame
 refine wpAnyL_two (i:=9) (j:=11) rfl rfl (by kernel_rfl) (fun KK hK=>?_) (fun KK hK=>?_)
 ·have M_t0:=MD
  have F_t0:=FD
  have T_t0:=hHeld
  have hB_t0:=hBd
  have hg_t0:=hgd
  go_simp
  refine(l6Body_any S.d (S.st:Int) sH sR ⟨some ⟨g,0,none⟩,ib.length+1,cP⟩ sN sO ⟨aB,(bodS S).length,cB⟩ false g t0 rfl (by show 0<ib.length+1;omega) (by show((ib.length+1:Nat):Int)<=_;omega) T_t0.2.2).mono ?_
  rintro e t1⟨rfl,hbC⟩
  have M_t1:Hid (MS0 t1 B S sH sR ⟨some ⟨g,0,none⟩,ib.length+1,cP⟩ sN sO (ib++[.slice aB (bodS S).length cB])):=M_t0.out.below hbC
  have F_t1:Hid (Fm tsM B w t1):=F_t0.out.below hbC hB_t0
  have T_t1:PX x (x+2) #[.int .i64 S.d,.slice sH.a sH.n sH.c,.slice sR.a sR.n sR.c,.slice (some ⟨g,0,none⟩) (ib.length+1) cP,.int .i64 (S.st:Int),.slice sN.a sN.n sN.c,.slice sO.a sO.n sO.c,.bool false] #[.int .i64 0,.slice none 0 0,.slice none 0 0,.slice none 0 0,.int .i64 0,.slice none 0 0,.slice none 0 0,.bool false] t1/\Cl t1 (x+1) [.int .i64 s.k,.int .i64 s.op,.int .i64 s.d,.int .i64 s.a,.int .i64 s.b,.int .i64 s.imm,.int .i64 s.h,.int .i64 s.cond,.int .i64 s.thn,.int .i64 s.els,.int .i64 s.proc]/\t1.cell? ⟨g,ib.length,none⟩=some (.slice aB (bodS S).length cB):=⟨T_t0.1.below hbC,T_t0.2.1.below hbC,(hbC.cell (p:=⟨g,ib.length,none⟩) hg_t0).trans T_t0.2.2⟩
  have hB_t1:B<=t1.heap.size:=by have:=hbC.size;omega
  have hg_t1:g<t1.heap.size:=by have:=hbC.size;omega
  clear hbC
  refine hK.out _ _ T_t1 (fun _=>?_)
  clear hK KK
  refine wpAnyL_call (i:=11) rfl (by kernel_rfl) (fun KK hK=>?_)
  go_simp
  obtain⟨t2,htt2,hbA,hnw⟩:∃y,t1.alloc (.cells #[.int .i64 s.k,.int .i64 s.op,.int .i64 s.d,.int .i64 s.a,.int .i64 s.b,.int .i64 s.imm,.int .i64 s.h,.int .i64 s.cond,.int .i64 s.thn,.int .i64 s.els,.int .i64 s.proc] 93)=y/\Below t1.heap.size t1 y/\(∀j u,(stL s)[j]?=some u->y.cell? ((⟨t1.heap.size,0,none⟩:Addr).add j)=some u):=⟨_,rfl,(Below.refl _ _).alloc (Nat.le_refl _) _,cells_newZ _ _ _⟩
  rw[htt2]
  have M_t2:Hid (MS0 t2 B S sH sR ⟨some ⟨g,0,none⟩,ib.length+1,cP⟩ sN sO (ib++[.slice aB (bodS S).length cB])):=M_t1.out.below hbA
  have F_t2:Hid (Fm tsM B w t2):=F_t1.out.below hbA hB_t1
  have T_t2:PX x (x+2) #[.int .i64 S.d,.slice sH.a sH.n sH.c,.slice sR.a sR.n sR.c,.slice (some ⟨g,0,none⟩) (ib.length+1) cP,.int .i64 (S.st:Int),.slice sN.a sN.n sN.c,.slice sO.a sO.n sO.c,.bool false] #[.int .i64 0,.slice none 0 0,.slice none 0 0,.slice none 0 0,.int .i64 0,.slice none 0 0,.slice none 0 0,.bool false] t2/\Cl t2 (x+1) [.int .i64 s.k,.int .i64 s.op,.int .i64 s.d,.int .i64 s.a,.int .i64 s.b,.int .i64 s.imm,.int .i64 s.h,.int .i64 s.cond,.int .i64 s.thn,.int .i64 s.els,.int .i64 s.proc]/\t2.cell? ⟨g,ib.length,none⟩=some (.slice aB (bodS S).length cB):=⟨T_t1.1.below hbA,T_t1.2.1.below hbA,(hbA.cell (p:=⟨g,ib.length,none⟩) hg_t1).trans T_t1.2.2⟩
  have hB_t2:B<=t2.heap.size:=by have:=hbA.size;omega
  have hg_t2:g<t2.heap.size:=by have:=hbA.size;omega
  have NW:Hid _:=hnw
  clear htt2 hbA hnw
  refine hK.out _ _ T_t2 (fun _=>?_)
  clear hK KK
  try go_frame
  have OH:Hid (t2.ownsRow B 93 11 (.slice aB (bodS S).length cB) (bodS S).length (cs (bodS S))):=(by
   have hR:=M_t2.out.R
   dsimp only at hR
   rw[HPS.out]at hR
   exact hR.own _ _ (srcR_last HIL.out):t2.ownsRow B 93 11 (.slice aB (bodS S).length cB) (bodS S).length (cs (bodS S)))
  obtain⟨v',w5,hrun,hown,hgrow,_,hat⟩:=run_append_own_at (P:=Tryz.prog) t2 B 66 66 93 iS _ 11 88 Tryz.underlying66 HIS.out.1 HIS.out.2.1 HIS.out.2.2.1 HIS.out.2.2.2 rfl (by decide) (.slice aB (bodS S).length cB) (bodS S).length (cs (bodS S)) OH.out ⟨t1.heap.size,0,none⟩ 1 1 (stL s) rfl NW.out (by simp[stL,Value.oneCell']) (by unfold maxLen;omega) (by omega) hB_t2
  have F5:Hid (Fm tsM B t2 w5):=Fm.of_grow OH.out (Nat.le_refl _) hgrow hB_t2 (by decide)
  have hB5:B<=w5.heap.size:=by have:=hgrow.size;omega
  have HO5:w5.ownsRow B 93 11 v' (bodS S++[s]).length (cs (bodS S++[s])):=by rw[List.length_append,cs_app,cs_one];exact hown
  obtain⟨m6,c6,f6,g6⟩:=M_t2.out.put (b':=bodS S++[s]) HPS.out HIL.out hgrow HO5 (hat.elim .inl (fun e=>.inr ⟨_,e,Nat.le_refl _⟩)) HI.out
  have hsx:∀k,(Value.slice aB (bodS S).length cB).ownBlock=some k->k≠x+1:=fun k hk e=>by
   rcases OH.out.2 with⟨h',_⟩|⟨g',cap,cur,h',_,hh,_⟩
   ·rw[h']at hk;cases hk
   ·rw[h']at hk
    have e2:g'=k:=Option.some.inj hk
    have:=NE.out g' (by rw[h'];rfl)
    omega
  have T5:PX x (x+2) #[.int .i64 S.d,.slice sH.a sH.n sH.c,.slice sR.a sR.n sR.c,.slice (some ⟨g,0,none⟩) (ib.length+1) cP,.int .i64 (S.st:Int),.slice sN.a sN.n sN.c,.slice sO.a sO.n sO.c,.bool false] #[.int .i64 0,.slice none 0 0,.slice none 0 0,.slice none 0 0,.int .i64 0,.slice none 0 0,.slice none 0 0,.bool false] w5/\Cl w5 (x+1) [.int .i64 s.k,.int .i64 s.op,.int .i64 s.d,.int .i64 s.a,.int .i64 s.b,.int .i64 s.imm,.int .i64 s.h,.int .i64 s.cond,.int .i64 s.thn,.int .i64 s.els,.int .i64 s.proc]/\w5.cell? ⟨g,ib.length,none⟩=some (.slice aB (bodS S).length cB):=⟨T_t2.1.fm F5.out,⟨Nat.lt_of_lt_of_le T_t2.2.1.1 hgrow.size,fun i hi=>(World.cell?_of_block (a:=⟨x+1,i,none⟩) (hgrow.block (x+1) T_t2.2.1.1 (fun e=>hsx _ e.symm rfl))).trans (T_t2.2.1.2 i hi)⟩,c6⟩
  refine wpAnyL_appendZ (.tmp 14) (.tmp 16) (i:=12) rfl (by kernel_rfl) (by kernel_rfl) rfl rfl rfl hrun T5 (fun hHeld5=>?_)
  try go_frame
  refine wpAnyL_tkT 13 ?k11v rfl ?k11y ?k11r
  case k11y=>(intro w hSw;(try dsimp only at hSw);go_simp;try with_reducible rfl)
  try go_frame
  refine wpAnyL_tk 14 ?k12v rfl ?k12y ?k12r
  case k12y=>(intro w hSw;(try dsimp only at hSw);go_simp;try with_reducible rfl)
  try go_frame
  obtain⟨ao5,c5,hv5⟩:=row_sliceZ hown
  subst hv5
  have M6:Hid (MS (w5.setCell ⟨g,ib.length,none⟩ (.slice ao5 ((bodS S).length+1) c5)) B (addS S s) sH sR ⟨some ⟨g,0,none⟩,ib.length+1,cP⟩ sN sO (ib++[.slice ao5 ((bodS S).length+1) c5])):=m6
  have F6:Hid (Fm tsM B w (w5.setCell ⟨g,ib.length,none⟩ (.slice ao5 ((bodS S).length+1) c5))):=(F_t2.out.trans F5.out).trans (g6 hB5)
  have P6:Hid (PX x (x+2) #[.int .i64 S.d,.slice sH.a sH.n sH.c,.slice sR.a sR.n sR.c,.slice (some ⟨g,0,none⟩) (ib.length+1) cP,.int .i64 (S.st:Int),.slice sN.a sN.n sN.c,.slice sO.a sO.n sO.c,.bool false] #[.int .i64 0,.slice none 0 0,.slice none 0 0,.slice none 0 0,.int .i64 0,.slice none 0 0,.slice none 0 0,.bool false] (w5.setCell ⟨g,ib.length,none⟩ (.slice ao5 ((bodS S).length+1) c5))):=T5.1.fm (g6 hB5)
  clear hown hgrow hat hrun OH F5 HO5 hsx T5 hHeld5 m6 g6 T_t2 M_t2 F_t2 NW hHeld MD FD r0 r1 r2 r3 r4 r5 r6 r7 r8 r9 r10 r11 r12 r13 r14 r15 r16 r17 r18
  refine wpAnyL_store rfl (by kernel_rfl) (by kernel_rfl) (fun KK hK=>?_)
  go_simp
  refine hK.out _ _ ?_
  clear hK KK
  generalize w5.setCell ⟨g,ib.length,none⟩ (.slice ao5 ((bodS S).length+1) c5)=u6 at P6 M6 F6⊢
  clear c6 f6
  obtain⟨y0,y1,y2,y3,y4,y5,y6,y7⟩:=hp8 P6.out.P
  obtain⟨z0,z1,z2,z3,z4,z5,z6,z7⟩:=hp8 P6.out.R
  have f9:=hp_frz P6.out.R
  go_wp2
  refine bodyPost_ret (v:=.agg #[.int .i64 S.d,.slice sH.a sH.n sH.c,.slice sR.a sR.n sR.c,.slice (some ⟨g,0,none⟩) (ib.length+1) cP,.int .i64 (S.st:Int),.slice sN.a sN.n sN.c,.slice sO.a sO.n sO.c,.bool false]) (by simp[results,Tryz.results49,go_sem,z0,z1,z2,z3,z4,z5,z6,z7]) rfl ?_
  exact⟨_,F6.out.put8 (by have:=HX.out;omega) (by omega) _ _ _ _ _ _ _ _,rfl,M6.out.put8 P6.out _ _ _ _ _ _ _ _⟩
 ·have M_t0:=MD
  have F_t0:=FD
  have T_t0:=hHeld
  have hB_t0:=hBd
  have hg_t0:=hgd
  go_simp
  obtain⟨t1,htt1,hbA,hnw⟩:∃y,t0.alloc (.cells #[.int .i64 s.k,.int .i64 s.op,.int .i64 s.d,.int .i64 s.a,.int .i64 s.b,.int .i64 s.imm,.int .i64 s.h,.int .i64 s.cond,.int .i64 s.thn,.int .i64 s.els,.int .i64 s.proc] 93)=y/\Below t0.heap.size t0 y/\(∀j u,(stL s)[j]?=some u->y.cell? ((⟨t0.heap.size,0,none⟩:Addr).add j)=some u):=⟨_,rfl,(Below.refl _ _).alloc (Nat.le_refl _) _,cells_newZ _ _ _⟩
  rw[htt1]
  have M_t1:Hid (MS0 t1 B S sH sR ⟨some ⟨g,0,none⟩,ib.length+1,cP⟩ sN sO (ib++[.slice aB (bodS S).length cB])):=M_t0.out.below hbA
  have F_t1:Hid (Fm tsM B w t1):=F_t0.out.below hbA hB_t0
  have T_t1:PX x (x+2) #[.int .i64 S.d,.slice sH.a sH.n sH.c,.slice sR.a sR.n sR.c,.slice (some ⟨g,0,none⟩) (ib.length+1) cP,.int .i64 (S.st:Int),.slice sN.a sN.n sN.c,.slice sO.a sO.n sO.c,.bool false] #[.int .i64 0,.slice none 0 0,.slice none 0 0,.slice none 0 0,.int .i64 0,.slice none 0 0,.slice none 0 0,.bool false] t1/\Cl t1 (x+1) [.int .i64 s.k,.int .i64 s.op,.int .i64 s.d,.int .i64 s.a,.int .i64 s.b,.int .i64 s.imm,.int .i64 s.h,.int .i64 s.cond,.int .i64 s.thn,.int .i64 s.els,.int .i64 s.proc]/\t1.cell? ⟨g,ib.length,none⟩=some (.slice aB (bodS S).length cB):=⟨T_t0.1.below hbA,T_t0.2.1.below hbA,(hbA.cell (p:=⟨g,ib.length,none⟩) hg_t0).trans T_t0.2.2⟩
  have hB_t1:B<=t1.heap.size:=by have:=hbA.size;omega
  have hg_t1:g<t1.heap.size:=by have:=hbA.size;omega
  have hnw1:=hnw
  have hz1:t0.heap.size<t1.heap.size:=by rw[<-htt1];simp
  clear htt1 hbA hnw
  refine hK.out _ _ T_t1 (fun _=>?_)
  clear hK KK
  try go_frame
  refine wpAnyL_call (i:=9) rfl (by kernel_rfl) (fun KK hK=>?_)
  go_simp
  refine(l6Body_any S.d (S.st:Int) sH sR ⟨some ⟨g,0,none⟩,ib.length+1,cP⟩ sN sO ⟨aB,(bodS S).length,cB⟩ false g t1 rfl (by show 0<ib.length+1;omega) (by show((ib.length+1:Nat):Int)<=_;omega) T_t1.2.2).mono ?_
  rintro e t2⟨rfl,hbC⟩
  have M_t2:Hid (MS0 t2 B S sH sR ⟨some ⟨g,0,none⟩,ib.length+1,cP⟩ sN sO (ib++[.slice aB (bodS S).length cB])):=M_t1.out.below hbC
  have F_t2:Hid (Fm tsM B w t2):=F_t1.out.below hbC hB_t1
  have T_t2:PX x (x+2) #[.int .i64 S.d,.slice sH.a sH.n sH.c,.slice sR.a sR.n sR.c,.slice (some ⟨g,0,none⟩) (ib.length+1) cP,.int .i64 (S.st:Int),.slice sN.a sN.n sN.c,.slice sO.a sO.n sO.c,.bool false] #[.int .i64 0,.slice none 0 0,.slice none 0 0,.slice none 0 0,.int .i64 0,.slice none 0 0,.slice none 0 0,.bool false] t2/\Cl t2 (x+1) [.int .i64 s.k,.int .i64 s.op,.int .i64 s.d,.int .i64 s.a,.int .i64 s.b,.int .i64 s.imm,.int .i64 s.h,.int .i64 s.cond,.int .i64 s.thn,.int .i64 s.els,.int .i64 s.proc]/\t2.cell? ⟨g,ib.length,none⟩=some (.slice aB (bodS S).length cB):=⟨T_t1.1.below hbC,T_t1.2.1.below hbC,(hbC.cell (p:=⟨g,ib.length,none⟩) hg_t1).trans T_t1.2.2⟩
  have hB_t2:B<=t2.heap.size:=by have:=hbC.size;omega
  have hg_t2:g<t2.heap.size:=by have:=hbC.size;omega
  have NW:Hid (∀j u,(stL s)[j]?=some u->t2.cell? ((⟨t0.heap.size,0,none⟩:Addr).add j)=some u):=(fun j u hj=>(hbC.cell (p:=(⟨t0.heap.size,0,none⟩:Addr).add j) (by unfold Addr.add;split<;>exact hz1)).trans (hnw1 j u hj):∀j u,(stL s)[j]?=some u->t2.cell? ((⟨t0.heap.size,0,none⟩:Addr).add j)=some u)
  clear hbC hnw1 hz1
  refine hK.out _ _ T_t2 (fun _=>?_)
  clear hK KK
  have OH:Hid (t2.ownsRow B 93 11 (.slice aB (bodS S).length cB) (bodS S).length (cs (bodS S))):=(by
   have hR:=M_t2.out.R
   dsimp only at hR
   rw[HPS.out]at hR
   exact hR.own _ _ (srcR_last HIL.out):t2.ownsRow B 93 11 (.slice aB (bodS S).length cB) (bodS S).length (cs (bodS S)))
  obtain⟨v',w5,hrun,hown,hgrow,_,hat⟩:=run_append_own_at (P:=Tryz.prog) t2 B 66 66 93 iS _ 11 88 Tryz.underlying66 HIS.out.1 HIS.out.2.1 HIS.out.2.2.1 HIS.out.2.2.2 rfl (by decide) (.slice aB (bodS S).length cB) (bodS S).length (cs (bodS S)) OH.out ⟨t0.heap.size,0,none⟩ 1 1 (stL s) rfl NW.out (by simp[stL,Value.oneCell']) (by unfold maxLen;omega) (by omega) hB_t2
  have F5:Hid (Fm tsM B t2 w5):=Fm.of_grow OH.out (Nat.le_refl _) hgrow hB_t2 (by decide)
  have hB5:B<=w5.heap.size:=by have:=hgrow.size;omega
  have HO5:w5.ownsRow B 93 11 v' (bodS S++[s]).length (cs (bodS S++[s])):=by rw[List.length_append,cs_app,cs_one];exact hown
  obtain⟨m6,c6,f6,g6⟩:=M_t2.out.put (b':=bodS S++[s]) HPS.out HIL.out hgrow HO5 (hat.elim .inl (fun e=>.inr ⟨_,e,Nat.le_refl _⟩)) HI.out
  have hsx:∀k,(Value.slice aB (bodS S).length cB).ownBlock=some k->k≠x+1:=fun k hk e=>by
   rcases OH.out.2 with⟨h',_⟩|⟨g',cap,cur,h',_,hh,_⟩
   ·rw[h']at hk;cases hk
   ·rw[h']at hk
    have e2:g'=k:=Option.some.inj hk
    have:=NE.out g' (by rw[h'];rfl)
    omega
  have T5:PX x (x+2) #[.int .i64 S.d,.slice sH.a sH.n sH.c,.slice sR.a sR.n sR.c,.slice (some ⟨g,0,none⟩) (ib.length+1) cP,.int .i64 (S.st:Int),.slice sN.a sN.n sN.c,.slice sO.a sO.n sO.c,.bool false] #[.int .i64 0,.slice none 0 0,.slice none 0 0,.slice none 0 0,.int .i64 0,.slice none 0 0,.slice none 0 0,.bool false] w5/\Cl w5 (x+1) [.int .i64 s.k,.int .i64 s.op,.int .i64 s.d,.int .i64 s.a,.int .i64 s.b,.int .i64 s.imm,.int .i64 s.h,.int .i64 s.cond,.int .i64 s.thn,.int .i64 s.els,.int .i64 s.proc]/\w5.cell? ⟨g,ib.length,none⟩=some (.slice aB (bodS S).length cB):=⟨T_t2.1.fm F5.out,⟨Nat.lt_of_lt_of_le T_t2.2.1.1 hgrow.size,fun i hi=>(World.cell?_of_block (a:=⟨x+1,i,none⟩) (hgrow.block (x+1) T_t2.2.1.1 (fun e=>hsx _ e.symm rfl))).trans (T_t2.2.1.2 i hi)⟩,c6⟩
  refine wpAnyL_appendZ (.tmp 14) (.tmp 16) (i:=12) rfl (by kernel_rfl) (by kernel_rfl) rfl rfl rfl hrun T5 (fun hHeld5=>?_)
  try go_frame
  refine wpAnyL_tkT 13 ?k13v rfl ?k13y ?k13r
  case k13y=>(intro w hSw;(try dsimp only at hSw);go_simp;try with_reducible rfl)
  try go_frame
  refine wpAnyL_tk 14 ?k14v rfl ?k14y ?k14r
  case k14y=>(intro w hSw;(try dsimp only at hSw);go_simp;try with_reducible rfl)
  try go_frame
  obtain⟨ao5,c5,hv5⟩:=row_sliceZ hown
  subst hv5
  have M6:Hid (MS (w5.setCell ⟨g,ib.length,none⟩ (.slice ao5 ((bodS S).length+1) c5)) B (addS S s) sH sR ⟨some ⟨g,0,none⟩,ib.length+1,cP⟩ sN sO (ib++[.slice ao5 ((bodS S).length+1) c5])):=m6
  have F6:Hid (Fm tsM B w (w5.setCell ⟨g,ib.length,none⟩ (.slice ao5 ((bodS S).length+1) c5))):=(F_t2.out.trans F5.out).trans (g6 hB5)
  have P6:Hid (PX x (x+2) #[.int .i64 S.d,.slice sH.a sH.n sH.c,.slice sR.a sR.n sR.c,.slice (some ⟨g,0,none⟩) (ib.length+1) cP,.int .i64 (S.st:Int),.slice sN.a sN.n sN.c,.slice sO.a sO.n sO.c,.bool false] #[.int .i64 0,.slice none 0 0,.slice none 0 0,.slice none 0 0,.int .i64 0,.slice none 0 0,.slice none 0 0,.bool false] (w5.setCell ⟨g,ib.length,none⟩ (.slice ao5 ((bodS S).length+1) c5))):=T5.1.fm (g6 hB5)
  clear hown hgrow hat hrun OH F5 HO5 hsx T5 hHeld5 m6 g6 T_t2 M_t2 F_t2 NW hHeld MD FD r0 r1 r2 r3 r4 r5 r6 r7 r8 r9 r10 r11 r12 r13 r14 r15 r16 r17 r18
  refine wpAnyL_store rfl (by kernel_rfl) (by kernel_rfl) (fun KK hK=>?_)
  go_simp
  refine hK.out _ _ ?_
  clear hK KK
  generalize w5.setCell ⟨g,ib.length,none⟩ (.slice ao5 ((bodS S).length+1) c5)=u6 at P6 M6 F6⊢
  clear c6 f6
  obtain⟨y0,y1,y2,y3,y4,y5,y6,y7⟩:=hp8 P6.out.P
  obtain⟨z0,z1,z2,z3,z4,z5,z6,z7⟩:=hp8 P6.out.R
  have f9:=hp_frz P6.out.R
  go_wp2
  refine bodyPost_ret (v:=.agg #[.int .i64 S.d,.slice sH.a sH.n sH.c,.slice sR.a sR.n sR.c,.slice (some ⟨g,0,none⟩) (ib.length+1) cP,.int .i64 (S.st:Int),.slice sN.a sN.n sN.c,.slice sO.a sO.n sO.c,.bool false]) (by simp[results,Tryz.results49,go_sem,z0,z1,z2,z3,z4,z5,z6,z7]) rfl ?_
  exact⟨_,F6.out.put8 (by have:=HX.out;omega) (by omega) _ _ _ _ _ _ _ _,rfl,M6.out.put8 P6.out _ _ _ _ _ _ _ _⟩
end Go.Proofs.YtblfmpgdhpbffaaGreatDoor
