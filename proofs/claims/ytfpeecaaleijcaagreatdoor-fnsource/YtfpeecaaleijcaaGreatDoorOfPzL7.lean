import Derived.Test.YtfpeecaaleijcaaGreatDoorOfCl
import Derived.Test.YtfpeecaaleijcaaGreatDoorOfPzL5
import Derived.Test.YtfpeecaaleijcaaGreatDoorOfPzSpec
set_option maxHeartbeats 6400000
set_option maxRecDepth 20000
namespace Go.Proofs.YtfpeecaaleijcaaGreatDoor
open Go.RowKit Go.Proofs
variable {os:List OV}{bv:List Value}{B:Nat}{o:OV}{w:World}
theorem Ii(rb n c:Nat)(a:Option Addr)(w:World)(hn:n=0)(hc:w.cell? (Va rb 13)=some (.slice a n c)):
 Calls Tryz.prog 90 #[Vq rb] w fun e w'=>e=.returned (.tuple #[.pointer none,.pointer none,Vi 0])/\w'=w:=by
 subst hn;have e0:(((0:Nat):Int)==0)=true:=by decide
 go_enter Tryz.func90,Tryz.ntmps90;go_wp2_with fail;go_ret3;exact⟨rfl,rfl⟩
theorem Ig(rb gO m cO g k cP gB n cB at':Nat)(w:World)(hm:m<1000000)(hk:k<1000000)(hn:n<=1000000)(ha:at'<n)(c13:w.cell? (Va rb 13)=some (Vs gO (m+1) cO))(c3:w.cell? (Va rb 3)=some (Vs g (k+1) cP))(ho:w.cell? (Va gO (m*2))=some (Vi (at':Int)))(hb:w.cell? (Va g k)=some (Vs gB n cB)):
 Calls Tryz.prog 90 #[Vq rb] w fun e w'=>e=.returned (.tuple #[.pointer (some ⟨gO,m*2,none⟩),.pointer (some ⟨gB,at'*11,none⟩),Vi ((n:Int)-at'-1)])/\Below w.heap.size w w':=by
 have e0:((m:Int)+1==0)=false:=by rw[beq_eq_false_iff_ne];omega
 have ea:((m+1:Nat):Int)-1=(m:Int):=by omega
 have ew:IntKind.i64.wrap (m:Int)=(m:Int):=by rw[IntKind.wrap_i64];omega
 have eb:(m:Int)<(m:Int)+1:=by omega
 have ec:(at':Int)<(n:Int):=by omega
 have ed:IntKind.i64.wrap ((n:Int)-at')=(n:Int)-at':=by rw[IntKind.wrap_i64];omega
 have ee:IntKind.i64.wrap ((n:Int)-at'-1)=(n:Int)-at'-1:=by rw[IntKind.wrap_i64];omega
 have l1:=World.block_lt_of_cell? _ _ c13;have l2:=World.block_lt_of_cell? _ _ ho;have l3:=World.block_lt_of_cell? _ _ hb;have C13:=hxy c13;have C3:=hxy c3;go_enter Tryz.func90,Tryz.ntmps90;go_upto_region 3 with fail;have r0:∀w':World,Below w.heap.size w w'->w'.cell? (Va rb 13)=some (Vs gO (m+1) cO):=fun w' h=>(h.cell (p:=Va rb 13) l1).trans C13.out
 have r1:∀w':World,Below w.heap.size w w'->w'.cell? (Va g k)=some (Vs gB n cB):=fun w' h=>(h.cell (p:=Va g k) l3).trans hb
 have r2:∀w':World,Below w.heap.size w w'->w'.cell? (Va gO (m*2))=some (Vi (at':Int)):=fun w' h=>(h.cell (p:=Va gO (m*2)) l2).trans ho
 clear c13 c3;refine wp_region_held_drew (S:=fun w'=>Below w.heap.size w w') (by kernel_rfl) (Below.refl _ _).drew (fun hHeld=>?_);generalize w.drew=t0 at hHeld⊢;refine AB 0 rfl ?_;refine AB 1 rfl ?_;refine AB 2 rfl ?_;refine AB 3 rfl ?_;refine AB 4 rfl ?_;refine AB 5 rfl ?_;refine AB 6 rfl ?_;refine AB 7 rfl ?_;refine AB 8 rfl ?_;refine AB 9 rfl ?_;refine AB 10 rfl ?_;refine AB 11 rfl ?_;refine AO 12 rfl (fun KK hK=>?_);go_simp;refine(MQ rb g k cP t0 hk ((hHeld.cell (p:=Va rb 3) l1).trans C3.out)).mono ?_;rintro e t1⟨rfl,hb1⟩;have hB1:=hHeld.trans (hb1.mono hHeld.size);clear hb1;refine hK.out _ _ hB1 (fun hHeld1=>?_);clear hK KK;refine AB 13 rfl ?_;refine AB 14 rfl ?_;refine AB 15 rfl ?_;refine AB 16 rfl ?_;refine wpAnyH_done (by kernel_rfl) ?_ _;go_upto_region 4 with fail;have H1:=hxy hB1;clear hHeld hHeld1 hB1;refine wp_region_held_drew (S:=fun w'=>Below w.heap.size w w') (by kernel_rfl) (H1.out.trans ((Below.refl _ _).drew)) (fun hHeld=>?_);have hb2:Below w.heap.size w t1.drew:=hHeld;generalize t1.drew=t2 at hHeld hb2⊢;refine AB 0 rfl ?_;refine AB 1 rfl ?_;refine AB 2 rfl ?_;refine AB 3 rfl ?_;refine AB 4 rfl ?_;refine AB 5 rfl ?_;refine AB 6 rfl ?_;refine AB 7 rfl ?_;refine AB 8 rfl ?_;refine AB 9 rfl ?_;refine AB 10 rfl ?_;refine AB 11 rfl ?_;refine AB 12 rfl ?_;refine AB 13 rfl ?_;refine AB 14 rfl ?_;refine AB 15 rfl ?_;refine AB 16 rfl ?_;refine AB 17 rfl ?_;refine wpAnyH_done (by kernel_rfl) ?_ _;have H2:=hxy hb2;clear r0 r1 r2 hHeld hb2 ho hb;go_wp2_with fail;go_ret3;exact⟨rfl,H2.out⟩
theorem Et.setO{g c m:Nat}{S:PS}{hs:List HS}{rg:List VV}{PL:List (List SV)}{vH vR vP:Value}(h:Et w B (Df (MB S (Vs g m c)) hs rg PL vH vR vP bv))(hop:S.op=o::os)(th:Int):
 Et (w.setCell ⟨g,os.length*2+1,none⟩ (.bool true)) B (Df (MB {S with op:=⟨o.at',th,true⟩::os} (Vs g m c)) hs rg PL vH vR vP bv)/\w.grownBy (w.setCell ⟨g,os.length*2+1,none⟩ (.bool true)) (some g)/\w.ownsRow B 179 2 (Vs g m c) S.op.length (S.op.reverse.flatMap Lh):=by
 have ho:w.ownsRow B 179 2 (Vs g m c) S.op.length (S.op.reverse.flatMap Lh):=h.own 0 _ rfl;have hm:=Ki ho;subst hm;obtain⟨s1,s2⟩:=ho.stored (os.length*2+1) (.bool true);have e:(S.op.reverse.flatMap Lh).set (os.length*2+1) (.bool true)=((⟨o.at',th,true⟩:OV)::os).reverse.flatMap Lh:=by
  rw[hop,List.reverse_cons,TW Lh 2 (fun _=>rfl) (os.reverse++[o]) os.length 1 o ⟨o.at',th,true⟩ _ (Gr _ _ _ (by simp)) (by omega) rfl,Jb _ _ _ _ (by simp),List.reverse_cons]
 rw[e]at s1;refine⟨?_,s2,ho⟩;have q:=h.grow (j:=0) (r:=⟨179,2,Vs g S.op.length c,S.op.length,S.op.reverse.flatMap Lh⟩) (r':=⟨179,2,Vs g S.op.length c,((⟨o.at',th,true⟩:OV)::os).length,((⟨o.at',th,true⟩:OV)::os).reverse.flatMap Lh⟩) rfl s2 (by unfold Rw.own;rw[hop]at s1⊢;exact s1) (.inl rfl);exact q
theorem Et.popO{g c m:Nat}{S:PS}{hs:List HS}{rg:List VV}{PL:List (List SV)}{vH vR vP:Value}(h:Et w B (Df (MB S (Vs g m c)) hs rg PL vH vR vP bv))(hop:S.op=o::os)(S':PS)(hS:S'.op=os):
 Et w B (Df (MB S' (Vs g os.length c)) hs rg PL vH vR vP bv):=by
 have ho:w.ownsRow B 179 2 (Vs g m c) S.op.length (S.op.reverse.flatMap Lh):=h.own 0 _ rfl;have hm:=Ki ho;subst hm;have ho2:=ho;rw[hop,List.reverse_cons,List.flatMap_append]at ho2;have s1:w.ownsRow B 179 2 (Vs g os.length c) os.length (os.reverse.flatMap Lh):=ownsRow_pop (by rw[bQ Lh 2 (fun _=>rfl)];simp) ho2;have q:=h.grow (w':=w) (j:=0) (r:=⟨179,2,Vs g S.op.length c,S.op.length,S.op.reverse.flatMap Lh⟩) (r':=⟨179,2,Vs g os.length c,S'.op.length,S'.op.reverse.flatMap Lh⟩) rfl (TH _ _) (by unfold Rw.own;rw[hS];exact s1) (.inl rfl);exact q
theorem PR.apart{S:PS}{rb sb nb ob mf km:Nat}{sH sR sP sO:Sl}(h:PR w B S rb sb nb ob mf km sH sR sP sO bv)(hop:S.op=o::os):
 S.st=3/\∃(ib:List Value)(g gB gO cB:Nat),bv=ib++[Vs gB (Ac S).length cB]/\LZ S=S.ps.dropLast++[pat S.op (Ac S)]/\ib.length=S.ps.dropLast.length/\sP.a=some ⟨g,0,none⟩/\sP.n=ib.length+1/\w.cell? ⟨g,ib.length,none⟩=some (Vs gB (Ac S).length cB)/\sO.a=some ⟨gO,0,none⟩/\sO.n=os.length+1/\os.length<=sO.c/\w.cell? ⟨gO,os.length*2,none⟩=some (Vi (o.at':Int))/\w.cell? ⟨gO,os.length*2+1,none⟩=some (.bool o.els)/\(∀j,j<11->w.cell? ⟨gB,o.at'*11+j,none⟩=(Yt ((pat S.op (Ac S)).getD o.at' sv0))[j]?)/\(∀i,w.frozen? (Va gB i)=false)/\(∀i,w.frozen? (Va gO i)=false)/\gB<w.heap.size/\gO<w.heap.size/\o.at'<(Ac S).length:=by
 have h3:S.st=3:=by
  by_cases h3:S.st=3
  ·exact h3
  ·have:=h.I.op h3;rw[hop]at this;cases this
 have hol:=h.I.ol o (by rw[hop];simp);obtain⟨ib,g,aB,cB,h1,h2,h4,h5,h6,h7,h8,h9⟩:=h.last h3;have hR:=h.R;rw[h2,h1]at hR;have oB:w.ownsRow B 89 11 (.slice aB (Ac S).length cB) (Ac S).length (cs (pat S.op (Ac S))):=by have q:=hR.own _ _ (DZ h4);unfold Rw.own at q;rw[Cf]at q;exact q
 obtain⟨gB,cB',eB,_,lB,_⟩:=H7 oB (by omega);injection eB with eB1 eB2 eB3;subst eB1;have oO:w.ownsRow B 179 2 (.slice sO.a sO.n sO.c) S.op.length (S.op.reverse.flatMap Lh):=h.R.own 0 _ rfl;have hol2:S.op.length=os.length+1:=by rw[hop];rfl
 rw[hol2]at oO;obtain⟨gO,cO',eO,_,lO,lcO⟩:=H7 oO (by omega);injection eO with eO1 eO2 eO3;rw[eO1,eO2]at oO;have key:∀j,j<2->w.cell? ⟨gO,os.length*2+j,none⟩=(Lh o)[j]?:=fun j hj=>by
  rw[oO.cellAt _ (by omega),hop,List.reverse_cons];exact Ui Lh 2 (fun _=>rfl) (os.reverse++[o]) os.length j o (Gr _ _ _ (by simp)) hj
 exact⟨h3,ib,g,gB,gO,cB,h1,h2,h4,h5,h6,h8,eO1,eO2,by omega,key 0 (by omega),key 1 (by omega),fun j hj=>by rw[oB.cellAt _ (by omega)];exact dM j (by rw[Cf];exact hol) hj,fun i=>oB.frozenAt i,fun i=>oO.frozenAt i,lB,lO,hol⟩
theorem Inv.els{S:PS}{o':OV}(h:Inv S)(hop:S.op=o::os)(ha:o'.at'=o.at'):Inv {S with op:=o'::os}:=by
 have hol:=h.ol;have hod:=h.od;rw[hop]at hol hod;refine⟨h.st,h.d,h.hs,h.rg,h.gv,h.ps,fun e=>(by have:=h.op e;rw[hop]at this;cases this),fun q hq=>?_,List.Pairwise.cons (fun q hq=>by rw[ha];exact(List.pairwise_cons.1 hod).1 q hq) (List.pairwise_cons.1 hod).2⟩;rcases List.mem_cons.1 hq with rfl|hq
 ·rw[ha];exact hol o (by simp)
 ·exact hol q (by simp[hq])
theorem QT{S:PS}(hI:Inv S)(hop:S.op=o::os):(pat os (Ac S)).getD o.at' sv0=(Ac S).getD o.at' sv0/\(pat S.op (Ac S)).getD o.at' sv0=(if o.els=true then{(Ac S).getD o.at' sv0 with thn:=o.th}else(Ac S).getD o.at' sv0)/\(∀q∈os,q.at'≠o.at'):=by
 have hod:=hI.od;rw[hop]at hod;have hne:∀q∈os,q.at'≠o.at':=fun q hq=>by have:=(List.pairwise_cons.1 hod).1 q hq;omega
 have e1:=getD_eq sv0 (PU os (Ac S) o.at' hne);refine⟨e1,?_,hne⟩;rw[hop];show(if o.els=true then(pat os (Ac S)).set o.at' _ else pat os (Ac S)).getD o.at' sv0=_;split
 ·have hol:=hI.ol o (by rw[hop];simp)
  rw[jJ,List.getElem?_set,if_pos rfl,if_pos (by rw[Cf];exact hol),e1];rfl
 ·exact e1
theorem PE(B:Nat)(S:PS)(rb sb nb ob mf km:Nat)(sH sR sP sO:Sl)(bv:List Value)(f:List (List UInt8))(fb fc:Nat)(w:World)(hB:B<=w.heap.size)(hm:PR w B S rb sb nb ob mf km sH sR sP sO bv)(hbd:Ie S 100000):
 Calls Tryz.prog 59 #[Vq rb,Vs fb f.length fc] w fun e w'=>PA B w rb sb nb ob mf km (JV S f) e w':=by
 obtain⟨RR,hRR⟩:=Ae (JV S f);rw[hRR];have HRR:=hxy hRR;clear hRR;cases hop:S.op with
 |nil=>
  have HN:Hid (RR=none):=(by rw[<-HRR.out];unfold JV;rw[hop]:RR=none)
  have h13:=hm.cells.2.2.2.2.2.1;have hn0:sO.n=0:=by rw[(Pd hm).2.2.2,hop];rfl
  have HN0:=hxy hn0;have H13:=hxy h13;clear hm hop h13 hn0 hbd;go_enter Tryz.func59,Tryz.ntmps59;go_wp2_with fail;refine(Ii rb sO.n sO.c sO.a w HN0.out H13.out).mono ?_;rintro e u⟨rfl,hu⟩;rw[hu];clear hu;by_cases h1:f.length=1
  ·have e1:((f.length:Int) !=1)=false:=by rw[bne_eq_false_iff_eq];omega
   clear h1;go_wp2_with fail;go_ret;rw[HN.out];exact⟨Fm.refl _ _ _,rfl,fun _ h=>(by cases h)⟩
  ·have e1:((f.length:Int) !=1)=true:=by rw[bne_iff_ne];omega
   clear h1;go_wp2_with fail;go_ret;rw[HN.out];exact⟨Fm.refl _ _ _,rfl,fun _ h=>(by cases h)⟩
 |cons o os=>
  have HOP:=hxy hop;obtain⟨h3,ib,g,gB,gO,cB,hbv,hpp,hil,hPa,hPn,hcl,hOa,hOn,hOc,ho0,ho1,hcb,hfb,hfo,lB,lO,hol⟩:=hm.apart hop;obtain⟨aP,nP,cP⟩:=sP;obtain⟨aO,nO,cO⟩:=sO;dsimp only at hPa hPn hOa hOn hOc hm⊢;subst hPa hPn hOa hOn hbv;have M:=hxy hm;have hi6:ib.length<1000000:=by have h1:=hm.L;have:=hbd.ps;simp at h1;omega
  have hl6:(Ac S).length<=1000000:=by have:=hbd.bd;omega
  have ho6:os.length<1000000:=by have:=hbd.op;rw[hop]at this;simp at this;omega
  have hth:=hbd.th o (by rw[hop];simp);obtain⟨c0,c1,c2,c3,c4,c13,c14,c15,c5,cf⟩:=hm.cells;have HPP:=hxy hpp;have HIL:Hid (ib.length=S.ps.dropLast.length):=hil;have HPT:Hid _:=QT hm.I hop;have HNE:=hxy (hm.I.ps h3);obtain⟨cur,hcur⟩:=Ae ((Ac S).getD o.at' sv0);have HCUR:=hxy hcur;rw[(QT hm.I hop).2.1,hcur]at hcb;have H3:=hxy h3;have HCL:=hxy hcl;have C13:Hid _:=c13;have C3:Hid _:=c3;have HO0:=hxy ho0;have HO1:=hxy ho1;have HCB:=hxy hcb;have HFB:=hxy hfb;have HFO:=hxy hfo;obtain⟨nn,hnn⟩:∃y:Int,((Ac S).length:Int)-(o.at':Int)-1=y:=⟨_,rfl⟩
  have HNN:=hxy hnn;have nn0:0<=nn:=by omega
  have nn1:nn<=1000000:=by omega
  clear hm hop hpp hil hcur h3 hcl c0 c1 c2 c3 c4 c13 c14 c15 c5 cf ho0 ho1 hcb hfb hfo hbd hnn;obtain⟨at',th,oe⟩:=o;dsimp only at *;go_enter Tryz.func59,Tryz.ntmps59;go_wp2_with fail;refine(Ig rb gO os.length cO g ib.length cP gB (Ac S).length cB at' w ho6 hi6 hl6 hol C13.out C3.out HO0.out HCL.out).mono ?_;rintro e u⟨rfl,hb⟩;rw[HNN.out];have M1:=hxy (M.out.below hb);have F1:Hid (Fm GL B w u):=Fm.of_below hb hB;have hBu:B<=u.heap.size:=by have:=hb.size;omega
  have k0:u.cell? (Va gB (at'*11))=some (Vi cur.k):=(hb.cell (p:=Va gB (at'*11)) lB).trans ((HCB.out 0 (by omega)).trans (by split<;>rfl));have k1:u.cell? ⟨gO,os.length*2+1,none⟩=some (.bool oe):=(hb.cell (p:=⟨gO,os.length*2+1,none⟩) lO).trans HO1.out;have kfB:∀i,u.frozen? (Va gB i)=false:=fun i=>(hb.frozen (p:=Va gB i) lB).trans (HFB.out i)
  have kfO:∀i,u.frozen? (Va gO i)=false:=fun i=>(hb.frozen (p:=Va gO i) lO).trans (HFO.out i)
  have K8:Hid (u.cell? (Va gB (at'*11+8))=some (Vi (if oe=true then th else cur.thn))):=((hb.cell (p:=Va gB (at'*11+8)) lB).trans ((HCB.out 8 (by omega)).trans (by split<;>rfl)):u.cell? (Va gB (at'*11+8))=some (Vi (if oe=true then th else cur.thn)))
  have K9:Hid (u.cell? (Va gB (at'*11+9))=some (Vi cur.els)):=((hb.cell (p:=Va gB (at'*11+9)) lB).trans ((HCB.out 9 (by omega)).trans (by split<;>rfl)):u.cell? (Va gB (at'*11+9))=some (Vi cur.els))
  have hRn:=M1.out.R;rw[HPP.out]at hRn;have hne:¬gO=gB:=fun e=>hRn.dis 0 (1+(ib.length+3)) _ _ (by omega) rfl (DZ (ex:=MB S (Vs gO (os.length+1) cO)) HIL.out) gO rfl (by rw[e];rfl)
  have hne2:¬gB=gO:=fun e=>hne e.symm
  have OB:Hid (u.ownsRow B 89 11 (Vs gB (Ac S).length cB) (pat S.op (Ac S)).length (cs (pat S.op (Ac S)))):=hRn.own _ _ (DZ (ex:=MB S (Vs gO (os.length+1) cO)) HIL.out);clear hRn;clear hb HCB HFB HFO HO0 HO1 C13 C3 HCL;by_cases h1:f.length=1
  rotate_left
  ·have e1:((f.length:Int) !=1)=true:=by rw[bne_iff_ne];omega
   have HN:Hid (RR=none):=(by rw[<-HRR.out];unfold JV;rw[HOP.out];simp only;rw[if_neg (fun h=>h1 h.1)]:RR=none)
   clear h1;go_wp2_with fail;go_ret;rw[HN.out];exact⟨F1.out,rfl,fun _ h=>(by cases h)⟩
  have e1:((f.length:Int) !=1)=false:=by rw[bne_eq_false_iff_eq];omega
  have HF1:=hxy h1;clear h1;by_cases hk:cur.k=2
  rotate_left
  ·have e5:(cur.k !=2)=true:=by rw[bne_iff_ne];exact hk
   have HN:Hid (RR=none):=(by rw[<-HRR.out];unfold JV;rw[HOP.out];simp only;rw[if_neg (fun h=>hk (by have:=h.2.2;rw[HCUR.out]at this;exact this))]:RR=none)
   clear hk;go_wp2_with fail;go_ret;rw[HN.out];exact⟨F1.out,rfl,fun _ h=>(by cases h)⟩
  have e5:(cur.k !=2)=false:=by rw[bne_eq_false_iff_eq];exact hk
  have HK2:=hxy hk;clear hk;cases oe with
  |true=>
   have HN:Hid (RR=none):=(by rw[<-HRR.out];unfold JV;rw[HOP.out];simp only;rw[if_neg (fun h=>by cases h.2.1)]:RR=none)
   go_wp2_with fail;go_ret;rw[HN.out];exact⟨F1.out,rfl,fun _ h=>(by cases h)⟩
  |false=>
   have HN:Hid (RR=some {S with op:=⟨at',nn,true⟩::os}):=(by rw[<-HRR.out];unfold JV;rw[HOP.out];simp only;rw[if_pos ⟨HF1.out,(by first|rfl|trivial),by rw[HCUR.out];exact HK2.out⟩,HNN.out]:RR=some {S with op:=⟨at',nn,true⟩::os})
   have k8:=K8.out;rw[if_neg (by decide)]at k8;go_upto_region 5 with fail;have hR:=M1.out.R;rw[HPP.out]at hR;dsimp only at hR;obtain⟨q1,q2⟩:=hR.bodySet (b':=pat (⟨at',nn,true⟩::os) (Ac S)) (j:=at'*11+8) (u:=Vi nn) HIL.out (by rw[Cf,Cf]) (by
    have hp:=HPT.out;rw[HOP.out];show(cs (pat os (Ac S))).set (at'*11+8) _=cs ((pat os (Ac S)).set at' {(pat os (Ac S)).getD at' sv0 with thn:=nn});exact Tw 8 (by rw[Cf];exact hol) (by omega) _ _ rfl)
   obtain⟨q3,q4,q5⟩:=q1.setO HOP.out nn;have f2:Fm GL B u (u.setCell (Va gB (at'*11+8)) (Vi nn)):=Fm.of_grow OB.out jG q2 hBu (by decide);have f3:Fm GL B (u.setCell (Va gB (at'*11+8)) (Vi nn)) ((u.setCell (Va gB (at'*11+8)) (Vi nn)).setCell ⟨gO,os.length*2+1,none⟩ (.bool true)):=Fm.of_grow q5 jG q4 (by simpa using hBu) (by decide);have pk:=(M1.out.pk.fm f2).fm f3;have cc:((u.setCell (Va gB (at'*11+8)) (Vi nn)).setCell ⟨gO,os.length*2+1,none⟩ (.bool true)).heap[rb]?=some (.cells (EA S sH sR ⟨some ⟨g,0,none⟩,ib.length+1,cP⟩ ⟨some ⟨gO,0,none⟩,os.length+1,cO⟩ sb km).toArray 85):=GR (GR M1.out.C OB.out (by decide) q2) q5 (by decide) q4;have M2:Hid (PR ((u.setCell (Va gB (at'*11+8)) (Vi nn)).setCell ⟨gO,os.length*2+1,none⟩ (.bool true)) B {S with op:=⟨at',nn,true⟩::os} rb sb nb ob mf km sH sR ⟨some ⟨g,0,none⟩,ib.length+1,cP⟩ ⟨some ⟨gO,0,none⟩,os.length+1,cO⟩ (ib++[Vs gB (Ac S).length cB])):=(⟨cc,(by rw[Hg (S:={S with op:=⟨at',nn,true⟩::os}) HNE.out];exact q3),M1.out.L,M1.out.I.els HOP.out rfl,pk.SC,pk.OA,pk.K,pk.E,pk.b,pk.m,pk.p⟩:PR ((u.setCell (Va gB (at'*11+8)) (Vi nn)).setCell ⟨gO,os.length*2+1,none⟩ (.bool true)) B {S with op:=⟨at',nn,true⟩::os} rb sb nb ob mf km sH sR ⟨some ⟨g,0,none⟩,ib.length+1,cP⟩ ⟨some ⟨gO,0,none⟩,os.length+1,cO⟩ (ib++[Vs gB (Ac S).length cB]))
   have F2:=hxy ((F1.out.trans f2).trans f3);clear f2 f3 pk cc q1 q2 q3 q4 q5 hR k0 k1 k8 kfB kfO OB M1;generalize(u.setCell (Va gB (at'*11+8)) (Vi nn)).setCell ⟨gO,os.length*2+1,none⟩ (.bool true)=u2 at M2 F2⊢;go_wp2_with fail;go_ret;rw[HN.out];exact⟨F2.out,rfl,fun _ h=>by cases h;exact⟨_,_,_,_,_,M2.out⟩⟩
theorem Qt(B:Nat)(S:PS)(rb sb nb ob mf km:Nat)(sH sR sP sO:Sl)(bv:List Value)(f:List (List UInt8))(fb fc:Nat)(w:World)(hB:B<=w.heap.size)(hm:PR w B S rb sb nb ob mf km sH sR sP sO bv)(hbd:Ie S 100000):
 Calls Tryz.prog 60 #[Vq rb,Vs fb f.length fc] w fun e w'=>PA B w rb sb nb ob mf km (JG S f) e w':=by
 obtain⟨RR,hRR⟩:=Ae (JG S f);rw[hRR];have HRR:=hxy hRR;clear hRR;cases hop:S.op with
 |nil=>
  have HN:Hid (RR=none):=(by rw[<-HRR.out];unfold JG;rw[hop]:RR=none)
  have h13:=hm.cells.2.2.2.2.2.1;have hn0:sO.n=0:=by rw[(Pd hm).2.2.2,hop];rfl
  have HN0:=hxy hn0;have H13:=hxy h13;clear hm hop h13 hn0 hbd;go_enter Tryz.func60,Tryz.ntmps60;go_wp2_with fail;refine(Ii rb sO.n sO.c sO.a w HN0.out H13.out).mono ?_;rintro e u⟨rfl,hu⟩;rw[hu];clear hu;by_cases h1:f.length=1
  ·have e1:((f.length:Int) !=1)=false:=by rw[bne_eq_false_iff_eq];omega
   clear h1;go_wp2_with fail;go_ret;rw[HN.out];exact⟨Fm.refl _ _ _,rfl,fun _ h=>(by cases h)⟩
  ·have e1:((f.length:Int) !=1)=true:=by rw[bne_iff_ne];omega
   clear h1;go_wp2_with fail;go_ret;rw[HN.out];exact⟨Fm.refl _ _ _,rfl,fun _ h=>(by cases h)⟩
 |cons o os=>
  have HOP:=hxy hop;obtain⟨h3,ib,g,gB,gO,cB,hbv,hpp,hil,hPa,hPn,hcl,hOa,hOn,hOc,ho0,ho1,hcb,hfb,hfo,lB,lO,hol⟩:=hm.apart hop;obtain⟨aP,nP,cP⟩:=sP;obtain⟨aO,nO,cO⟩:=sO;dsimp only at hPa hPn hOa hOn hOc hm⊢;subst hPa hPn hOa hOn hbv;have M:=hxy hm;have hi6:ib.length<1000000:=by have h1:=hm.L;have:=hbd.ps;simp at h1;omega
  have hl6:(Ac S).length<=1000000:=by have:=hbd.bd;omega
  have ho6:os.length<1000000:=by have:=hbd.op;rw[hop]at this;simp at this;omega
  have hth:=hbd.th o (by rw[hop];simp);obtain⟨c0,c1,c2,c3,c4,c13,c14,c15,c5,cf⟩:=hm.cells;have HPP:=hxy hpp;have HIL:Hid (ib.length=S.ps.dropLast.length):=hil;have HPT:Hid _:=QT hm.I hop;have HNE:=hxy (hm.I.ps h3);obtain⟨cur,hcur⟩:=Ae ((Ac S).getD o.at' sv0);have HCUR:=hxy hcur;rw[(QT hm.I hop).2.1,hcur]at hcb;have H3:=hxy h3;have HCL:=hxy hcl;have C13:Hid _:=c13;have C3:Hid _:=c3;have HO0:=hxy ho0;have HO1:=hxy ho1;have HCB:=hxy hcb;have HFB:=hxy hfb;have HFO:=hxy hfo;obtain⟨nn,hnn⟩:∃y:Int,((Ac S).length:Int)-(o.at':Int)-1=y:=⟨_,rfl⟩
  have HNN:=hxy hnn;have nn0:0<=nn:=by omega
  have nn1:nn<=1000000:=by omega
  clear hm hop hpp hil hcur h3 hcl c0 c1 c2 c3 c4 c13 c14 c15 c5 cf ho0 ho1 hcb hfb hfo hbd hnn;obtain⟨at',th,oe⟩:=o;dsimp only at *;go_enter Tryz.func60,Tryz.ntmps60;go_wp2_with fail;refine(Ig rb gO os.length cO g ib.length cP gB (Ac S).length cB at' w ho6 hi6 hl6 hol C13.out C3.out HO0.out HCL.out).mono ?_;rintro e u⟨rfl,hb⟩;rw[HNN.out];have M1:=hxy (M.out.below hb);have F1:Hid (Fm GL B w u):=Fm.of_below hb hB;have hBu:B<=u.heap.size:=by have:=hb.size;omega
  have k0:u.cell? (Va gB (at'*11))=some (Vi cur.k):=(hb.cell (p:=Va gB (at'*11)) lB).trans ((HCB.out 0 (by omega)).trans (by split<;>rfl));have k1:u.cell? ⟨gO,os.length*2+1,none⟩=some (.bool oe):=(hb.cell (p:=⟨gO,os.length*2+1,none⟩) lO).trans HO1.out;have kfB:∀i,u.frozen? (Va gB i)=false:=fun i=>(hb.frozen (p:=Va gB i) lB).trans (HFB.out i)
  have kfO:∀i,u.frozen? (Va gO i)=false:=fun i=>(hb.frozen (p:=Va gO i) lO).trans (HFO.out i)
  have K8:Hid (u.cell? (Va gB (at'*11+8))=some (Vi (if oe=true then th else cur.thn))):=((hb.cell (p:=Va gB (at'*11+8)) lB).trans ((HCB.out 8 (by omega)).trans (by split<;>rfl)):u.cell? (Va gB (at'*11+8))=some (Vi (if oe=true then th else cur.thn)))
  have K9:Hid (u.cell? (Va gB (at'*11+9))=some (Vi cur.els)):=((hb.cell (p:=Va gB (at'*11+9)) lB).trans ((HCB.out 9 (by omega)).trans (by split<;>rfl)):u.cell? (Va gB (at'*11+9))=some (Vi cur.els))
  have hRn:=M1.out.R;rw[HPP.out]at hRn;have hne:¬gO=gB:=fun e=>hRn.dis 0 (1+(ib.length+3)) _ _ (by omega) rfl (DZ (ex:=MB S (Vs gO (os.length+1) cO)) HIL.out) gO rfl (by rw[e];rfl)
  have hne2:¬gB=gO:=fun e=>hne e.symm
  have OB:Hid (u.ownsRow B 89 11 (Vs gB (Ac S).length cB) (pat S.op (Ac S)).length (cs (pat S.op (Ac S)))):=hRn.own _ _ (DZ (ex:=MB S (Vs gO (os.length+1) cO)) HIL.out);clear hRn;clear hb HCB HFB HFO HO0 HO1 C13 C3 HCL;by_cases h1:f.length=1
  rotate_left
  ·have e1:((f.length:Int) !=1)=true:=by rw[bne_iff_ne];omega
   have HN:Hid (RR=none):=(by rw[<-HRR.out];unfold JG;rw[HOP.out];simp only;rw[if_neg (fun h=>h1 h)]:RR=none)
   clear h1;go_wp2_with fail;go_ret;rw[HN.out];exact⟨F1.out,rfl,fun _ h=>(by cases h)⟩
  have e1:((f.length:Int) !=1)=false:=by rw[bne_eq_false_iff_eq];omega
  have HF1:=hxy h1;clear h1;cases oe with
  |true=>
   have e8:IntKind.i64.wrap (nn-th)=nn-th:=by rw[IntKind.wrap_i64];omega
   have HN:Hid (RR=some {Cv S ((Ac S).set at' {cur with thn:=th,els:=nn-th})with op:=os}):=(by rw[<-HRR.out];unfold JG;rw[HOP.out];simp only;rw[if_pos HF1.out,HCUR.out,HNN.out];rfl:RR=some {Cv S ((Ac S).set at' {cur with thn:=th,els:=nn-th})with op:=os})
   have k8:=K8.out;rw[if_pos rfl]at k8;have k9:=K9.out;go_upto_region 7 with fail;have hR:=M1.out.R;rw[HPP.out]at hR;dsimp only at hR;obtain⟨q1,q2⟩:=hR.bodySet (b':=pat os ((Ac S).set at' {cur with thn:=th,els:=nn-th})) (j:=at'*11+9) (u:=Vi (nn-th)) HIL.out (by rw[Cf,Cf,List.length_set]) (by
    have hp:=HPT.out;try dsimp only at hp
    rw[HOP.out,QH _ _ _ _ hp.2.2];show(cs ((pat os (Ac S)).set at' {(pat os (Ac S)).getD at' sv0 with thn:=th})).set (at'*11+9) _=_;rw[Tw 9 (by rw[List.length_set,Cf];exact hol) (by omega) {cur with thn:=th,els:=nn-th} _ (by rw[jJ,List.getElem?_set,if_pos rfl,if_pos (by rw[Cf];exact hol),hp.1,HCUR.out];rfl),List.set_set])
   have f2:Fm GL B u (u.setCell (Va gB (at'*11+9)) (Vi (nn-th))):=Fm.of_grow OB.out jG q2 hBu (by decide);have pk:=M1.out.pk.fm f2;have cc:(u.setCell (Va gB (at'*11+9)) (Vi (nn-th))).heap[rb]?=some (.cells (EA S sH sR ⟨some ⟨g,0,none⟩,ib.length+1,cP⟩ ⟨some ⟨gO,0,none⟩,os.length+1,cO⟩ sb km).toArray 85):=GR M1.out.C OB.out (by decide) q2;have hB2:B<=(u.setCell (Va gB (at'*11+9)) (Vi (nn-th))).heap.size:=by simpa using hBu
   have R2:Hid (Et (u.setCell (Va gB (at'*11+9)) (Vi (nn-th))) B (Df (MB {Cv S ((Ac S).set at' {cur with thn:=th,els:=nn-th})with op:=os} (Vs gO os.length cO)) S.hs S.rg (LZ {Cv S ((Ac S).set at' {cur with thn:=th,els:=nn-th})with op:=os}) (.slice sH.a sH.n sH.c) (.slice sR.a sR.n sR.c) (Vs g (ib.length+1) cP) (ib++[Vs gB (Ac S).length cB]))):=(by
    have q:=q1.popO (S:=S) HOP.out {Cv S ((Ac S).set at' {cur with thn:=th,els:=nn-th})with op:=os} rfl;rw[Hg (S:={Cv S ((Ac S).set at' {cur with thn:=th,els:=nn-th})with op:=os}) (by simp[Cv])];have e1:Ac {Cv S ((Ac S).set at' {cur with thn:=th,els:=nn-th})with op:=os}=((Ac S).set at' {cur with thn:=th,els:=nn-th}):=IC S _;have e2:({Cv S ((Ac S).set at' {cur with thn:=th,els:=nn-th})with op:=os}:PS).ps.dropLast=S.ps.dropLast:=by show(S.ps.dropLast++[_]).dropLast=_;simp
    rw[e1,e2];exact q:Et (u.setCell (Va gB (at'*11+9)) (Vi (nn-th))) B (Df (MB {Cv S ((Ac S).set at' {cur with thn:=th,els:=nn-th})with op:=os} (Vs gO os.length cO)) S.hs S.rg (LZ {Cv S ((Ac S).set at' {cur with thn:=th,els:=nn-th})with op:=os}) (.slice sH.a sH.n sH.c) (.slice sR.a sR.n sR.c) (Vs g (ib.length+1) cP) (ib++[Vs gB (Ac S).length cB])))
   have C2:=hxy cc;have K2:=hxy pk;have F2:=hxy (F1.out.trans f2);have HIV:Hid (Inv {Cv S ((Ac S).set at' {cur with thn:=th,els:=nn-th})with op:=os}):=M1.out.I.put ((Ac S).set at' {cur with thn:=th,els:=nn-th}) os H3.out (fun q hq=>by rw[List.length_set];exact M1.out.I.ol q (by rw[HOP.out];simp[hq])) (by have h:=M1.out.I.od;rw[HOP.out]at h;exact(List.pairwise_cons.1 h).2);have HLV:Hid ((ib++[Vs gB (Ac S).length cB]).length=({Cv S ((Ac S).set at' {cur with thn:=th,els:=nn-th})with op:=os}:PS).ps.length):=(by show _=(S.ps.dropLast++[_]).length;rw[List.length_append,List.length_append,HIL.out];rfl:(ib++[Vs gB (Ac S).length cB]).length=({Cv S ((Ac S).set at' {cur with thn:=th,els:=nn-th})with op:=os}:PS).ps.length)
   have HGL:Hid (S.gv.length=8):=M1.out.I.gv;clear f2 pk cc q1 q2 hR k0 k1 k8 k9 kfB kfO OB M1 F1;generalize u.setCell (Va gB (at'*11+9)) (Vi (nn-th))=u2 at R2 C2 K2 F2 hB2⊢;have r0:∀w':World,w'.heap[rb]?=some (.cells (EA S sH sR ⟨some ⟨g,0,none⟩,ib.length+1,cP⟩ ⟨some ⟨gO,0,none⟩,os.length+1,cO⟩ sb km).toArray 85)->w'.cell? (Va rb 13)=some (Vs gO (os.length+1) cO):=fun w' h=>(AV h 13).trans (bN S sH sR ⟨some ⟨g,0,none⟩,ib.length+1,cP⟩ ⟨some ⟨gO,0,none⟩,os.length+1,cO⟩ sb km HGL.out)
   have ea:((os.length+1:Nat):Int)-1=(os.length:Int):=by omega
   have ew:IntKind.i64.wrap (os.length:Int)=(os.length:Int):=by rw[IntKind.wrap_i64];omega
   have C3:Hid (u2.drew.heap[rb]?=some (.cells (EA S sH sR ⟨some ⟨g,0,none⟩,ib.length+1,cP⟩ ⟨some ⟨gO,0,none⟩,os.length+1,cO⟩ sb km).toArray 85)):=C2.out;have R3:Hid _:=R2.out.below (Below.refl u2.heap.size u2).drew;have K3:Hid (PK u2.drew B rb sb nb ob mf km):=K2.out.fm (Fm.of_below (Below.refl u2.heap.size u2).drew hB2);have F3:Hid (Fm GL B w u2.drew):=F2.out.below (Below.refl _ _).drew hB2;refine BF (T:=fun w'=>w'.heap[rb]?=some (.cells (EA S sH sR ⟨some ⟨g,0,none⟩,ib.length+1,cP⟩ ⟨some ⟨gO,0,none⟩,os.length+1,cO⟩ sb km).toArray 85)) (s:=14) (by kernel_rfl) C3.out (fun hHeld=>?_);clear R2 C2 K2 F2;generalize u2.drew=t0 at hHeld R3 C3 K3 F3⊢;refine AJ 0 rfl ?_;refine AJ 1 rfl ?_;refine AJ 2 rfl ?_;refine AJ 3 rfl ?_;refine AJ 4 rfl ?_;refine AJ 5 rfl ?_;refine AJ 6 rfl ?_;refine AJ 7 rfl ?_;refine AJ 8 rfl ?_;refine AJ 9 rfl ?_;refine AJ 10 rfl ?_;refine AJ 11 rfl ?_;refine C9 12 rfl ?_;refine AJ 13 rfl ?_;obtain⟨m6,f6⟩:=PR.set (S':={Cv S ((Ac S).set at' {cur with thn:=th,els:=nn-th})with op:=os}) (sO':=⟨some ⟨gO,0,none⟩,os.length,cO⟩) C3.out (KS S {Cv S ((Ac S).set at' {cur with thn:=th,els:=nn-th})with op:=os} sH sR ⟨some ⟨g,0,none⟩,ib.length+1,cP⟩ ⟨some ⟨gO,0,none⟩,os.length+1,cO⟩ ⟨some ⟨gO,0,none⟩,os.length,cO⟩ sb km HGL.out rfl rfl rfl) R3.out HLV.out HIV.out K3.out
   have M6:Hid _:=m6
   have F6:Hid _:=F3.out.trans f6
   have y1:=r0 t0 C3.out
   have yf:=CQ C3.out
   clear m6 f6 r0 hHeld
   refine A7 rfl (by kernel_rfl) (by kernel_rfl) (fun KK hK=>?_)
   go_simp
   refine hK.out _ _ ?_
   clear hK KK y1 yf
   go_wp2_with fail
   go_ret
   rw[HN.out]
   exact⟨F6.out,rfl,fun _ h=>by cases h;exact⟨_,_,_,_,_,M6.out⟩⟩
  |false=>
   have HN:Hid (RR=some {Cv S ((Ac S).set at' {cur with thn:=nn})with op:=os}):=(by rw[<-HRR.out];unfold JG;rw[HOP.out];simp only;rw[if_pos HF1.out,HCUR.out,HNN.out];rfl:RR=some {Cv S ((Ac S).set at' {cur with thn:=nn})with op:=os})
   have k8:=K8.out
   rw[if_neg (by decide)]at k8
   have k9:=K9.out
   go_upto_region 7 with fail
   have hR:=M1.out.R
   rw[HPP.out]at hR
   dsimp only at hR
   obtain⟨q1,q2⟩:=hR.bodySet (b':=pat os ((Ac S).set at' {cur with thn:=nn})) (j:=at'*11+8) (u:=Vi nn) HIL.out (by rw[Cf,Cf,List.length_set]) (by
    have hp:=HPT.out
    try dsimp only at hp
    rw[HOP.out,QH _ _ _ _ hp.2.2]
    show(cs (pat os (Ac S))).set (at'*11+8) _=_
    exact Tw 8 (by rw[Cf];exact hol) (by omega) _ _ (by rw[hp.1,HCUR.out];rfl))
   have f2:Fm GL B u (u.setCell (Va gB (at'*11+8)) (Vi nn)):=Fm.of_grow OB.out jG q2 hBu (by decide)
   have pk:=M1.out.pk.fm f2
   have cc:(u.setCell (Va gB (at'*11+8)) (Vi nn)).heap[rb]?=some (.cells (EA S sH sR ⟨some ⟨g,0,none⟩,ib.length+1,cP⟩ ⟨some ⟨gO,0,none⟩,os.length+1,cO⟩ sb km).toArray 85):=GR M1.out.C OB.out (by decide) q2
   have hB2:B<=(u.setCell (Va gB (at'*11+8)) (Vi nn)).heap.size:=by simpa using hBu
   have R2:Hid (Et (u.setCell (Va gB (at'*11+8)) (Vi nn)) B (Df (MB {Cv S ((Ac S).set at' {cur with thn:=nn})with op:=os} (Vs gO os.length cO)) S.hs S.rg (LZ {Cv S ((Ac S).set at' {cur with thn:=nn})with op:=os}) (.slice sH.a sH.n sH.c) (.slice sR.a sR.n sR.c) (Vs g (ib.length+1) cP) (ib++[Vs gB (Ac S).length cB]))):=(by
    have q:=q1.popO (S:=S) HOP.out {Cv S ((Ac S).set at' {cur with thn:=nn})with op:=os} rfl
    rw[Hg (S:={Cv S ((Ac S).set at' {cur with thn:=nn})with op:=os}) (by simp[Cv])]
    have e1:Ac {Cv S ((Ac S).set at' {cur with thn:=nn})with op:=os}=((Ac S).set at' {cur with thn:=nn}):=IC S _
    have e2:({Cv S ((Ac S).set at' {cur with thn:=nn})with op:=os}:PS).ps.dropLast=S.ps.dropLast:=by show(S.ps.dropLast++[_]).dropLast=_;simp
    rw[e1,e2]
    exact q:Et (u.setCell (Va gB (at'*11+8)) (Vi nn)) B (Df (MB {Cv S ((Ac S).set at' {cur with thn:=nn})with op:=os} (Vs gO os.length cO)) S.hs S.rg (LZ {Cv S ((Ac S).set at' {cur with thn:=nn})with op:=os}) (.slice sH.a sH.n sH.c) (.slice sR.a sR.n sR.c) (Vs g (ib.length+1) cP) (ib++[Vs gB (Ac S).length cB])))
   have C2:=hxy cc
   have K2:=hxy pk
   have F2:=hxy (F1.out.trans f2)
   have HIV:Hid (Inv {Cv S ((Ac S).set at' {cur with thn:=nn})with op:=os}):=M1.out.I.put ((Ac S).set at' {cur with thn:=nn}) os H3.out (fun q hq=>by rw[List.length_set];exact M1.out.I.ol q (by rw[HOP.out];simp[hq])) (by have h:=M1.out.I.od;rw[HOP.out]at h;exact(List.pairwise_cons.1 h).2)
   have HLV:Hid ((ib++[Vs gB (Ac S).length cB]).length=({Cv S ((Ac S).set at' {cur with thn:=nn})with op:=os}:PS).ps.length):=(by show _=(S.ps.dropLast++[_]).length;rw[List.length_append,List.length_append,HIL.out];rfl:(ib++[Vs gB (Ac S).length cB]).length=({Cv S ((Ac S).set at' {cur with thn:=nn})with op:=os}:PS).ps.length)
   have HGL:Hid (S.gv.length=8):=M1.out.I.gv
   clear f2 pk cc q1 q2 hR k0 k1 k8 k9 kfB kfO OB M1 F1
   generalize u.setCell (Va gB (at'*11+8)) (Vi nn)=u2 at R2 C2 K2 F2 hB2⊢
   have r0:∀w':World,w'.heap[rb]?=some (.cells (EA S sH sR ⟨some ⟨g,0,none⟩,ib.length+1,cP⟩ ⟨some ⟨gO,0,none⟩,os.length+1,cO⟩ sb km).toArray 85)->w'.cell? (Va rb 13)=some (Vs gO (os.length+1) cO):=fun w' h=>(AV h 13).trans (bN S sH sR ⟨some ⟨g,0,none⟩,ib.length+1,cP⟩ ⟨some ⟨gO,0,none⟩,os.length+1,cO⟩ sb km HGL.out)
   have ea:((os.length+1:Nat):Int)-1=(os.length:Int):=by omega
   have ew:IntKind.i64.wrap (os.length:Int)=(os.length:Int):=by rw[IntKind.wrap_i64];omega
   have C3:Hid (u2.drew.heap[rb]?=some (.cells (EA S sH sR ⟨some ⟨g,0,none⟩,ib.length+1,cP⟩ ⟨some ⟨gO,0,none⟩,os.length+1,cO⟩ sb km).toArray 85)):=C2.out
   have R3:Hid _:=R2.out.below (Below.refl u2.heap.size u2).drew
   have K3:Hid (PK u2.drew B rb sb nb ob mf km):=K2.out.fm (Fm.of_below (Below.refl u2.heap.size u2).drew hB2)
   have F3:Hid (Fm GL B w u2.drew):=F2.out.below (Below.refl _ _).drew hB2
   refine BF (T:=fun w'=>w'.heap[rb]?=some (.cells (EA S sH sR ⟨some ⟨g,0,none⟩,ib.length+1,cP⟩ ⟨some ⟨gO,0,none⟩,os.length+1,cO⟩ sb km).toArray 85)) (s:=14) (by kernel_rfl) C3.out (fun hHeld=>?_)
   clear R2 C2 K2 F2
   generalize u2.drew=t0 at hHeld R3 C3 K3 F3⊢
   refine AJ 0 rfl ?_
   refine AJ 1 rfl ?_
   refine AJ 2 rfl ?_
   refine AJ 3 rfl ?_
   refine AJ 4 rfl ?_
   refine AJ 5 rfl ?_
   refine AJ 6 rfl ?_
   refine AJ 7 rfl ?_
   refine AJ 8 rfl ?_
   refine AJ 9 rfl ?_
   refine AJ 10 rfl ?_
   refine AJ 11 rfl ?_
   refine C9 12 rfl ?_
   refine AJ 13 rfl ?_
   obtain⟨m6,f6⟩:=PR.set (S':={Cv S ((Ac S).set at' {cur with thn:=nn})with op:=os}) (sO':=⟨some ⟨gO,0,none⟩,os.length,cO⟩) C3.out (KS S {Cv S ((Ac S).set at' {cur with thn:=nn})with op:=os} sH sR ⟨some ⟨g,0,none⟩,ib.length+1,cP⟩ ⟨some ⟨gO,0,none⟩,os.length+1,cO⟩ ⟨some ⟨gO,0,none⟩,os.length,cO⟩ sb km HGL.out rfl rfl rfl) R3.out HLV.out HIV.out K3.out
   have M6:Hid _:=m6
   have F6:Hid _:=F3.out.trans f6
   have y1:=r0 t0 C3.out
   have yf:=CQ C3.out
   clear m6 f6 r0 hHeld
   refine A7 rfl (by kernel_rfl) (by kernel_rfl) (fun KK hK=>?_)
   go_simp
   refine hK.out _ _ ?_
   clear hK KK y1 yf
   go_wp2_with fail
   go_ret
   rw[HN.out]
   exact⟨F6.out,rfl,fun _ h=>by cases h;exact⟨_,_,_,_,_,M6.out⟩⟩
end Go.Proofs.YtfpeecaaleijcaaGreatDoor
