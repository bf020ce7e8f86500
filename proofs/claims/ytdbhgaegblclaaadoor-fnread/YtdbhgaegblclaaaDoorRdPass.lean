import Derived.Test.YtdbhgaegblclaaaDoorRdFrm
set_option maxHeartbeats 3200000
set_option maxRecDepth 20000
namespace Go.Proofs.YtdbhgaegblclaaaDoor
open Go.RowKit
theorem set7{w v:World}{p:Nat}{cs:Array Value}{t:TypeId}(h:v.heap[p]?=some (.cells cs t))(hp:w.heap.size<=p)(hb:Below w.heap.size w v)(hc:cs.size=7)(x0 x1 x2 x3 x4 x5 x6:Value):
 (((((((v.setCell ⟨p,0,none⟩ x0).setCell ⟨p,1,none⟩ x1).setCell ⟨p,2,none⟩ x2).setCell ⟨p,3,none⟩ x3).setCell ⟨p,4,none⟩ x4).setCell ⟨p,5,none⟩ x5).setCell ⟨p,6,none⟩ x6).heap[p]?=some (.cells #[x0,x1,x2,x3,x4,x5,x6] t)/\
 Below w.heap.size w (((((((v.setCell ⟨p,0,none⟩ x0).setCell ⟨p,1,none⟩ x1).setCell ⟨p,2,none⟩ x2).setCell ⟨p,3,none⟩ x3).setCell ⟨p,4,none⟩ x4).setCell ⟨p,5,none⟩ x5).setCell ⟨p,6,none⟩ x6):=by
 obtain⟨xs⟩:=cs;obtain⟨y0,y1,y2,y3,y4,y5,y6,rfl⟩:∃y0 y1 y2 y3 y4 y5 y6,xs=[y0,y1,y2,y3,y4,y5,y6]:=by
  have hc:xs.length=7:=hc;match xs,hc with
  |[y0,y1,y2,y3,y4,y5,y6],_=>exact⟨y0,y1,y2,y3,y4,y5,y6,rfl⟩
 refine⟨?_,((((((hb.setCell hp _).setCell hp _).setCell hp _).setCell hp _).setCell hp _).setCell hp _).setCell hp _⟩;rw[hp_set (hp_set (hp_set (hp_set (hp_set (hp_set (hp_set h 0 x0) 1 x1) 2 x2) 3 x3) 4 x4) 5 x5) 6 x6];rfl
theorem pass1(w:World)(p q b:Nat)(tot:Option Row)(K:Exit->Act->World->Prop)(hp:w.heap.size<=p)(hQ:∀(a:Act)(v':World)v5 v6 v7 v9 v10,Frm a (.pointer (some ⟨p,0,none⟩)) v5 v6 v7 v9 v10->v'.heap[p]?=some (.cells (lnA tot) 109)->Below w.heap.size w v'->K .ret a v')(a:Act)(v:World)(h:LJ w p q b tot 1 a v):
 (rlG Tryd.f72 1).wp Tryd.prog K a v:=by
 obtain⟨v6,v7,v9,v10,lb,x,hF,hX,ht⟩:=h;have HX:Hid (GotX w p q lb x v):=hX;have HQ:Hid (∀(a:Act)(v':World)v5 v6 v7 v9 v10,Frm a (.pointer (some ⟨p,0,none⟩)) v5 v6 v7 v9 v10->v'.heap[p]?=some (.cells (lnA tot) 109)->Below w.heap.size w v'->K .ret a v'):=hQ;have HT:Hid (tot=none):=ht;have p0:=hp_cell hX.P 0;have p1:=hp_cell hX.P 1;have p2:=hp_cell hX.P 2;have p3:=hp_cell hX.P 3;have p4:=hp_cell hX.P 4;have p5:=hp_cell hX.P 5;have p6:=hp_cell hX.P 6;have pf:=hp_free hX.P;simp only[lnA,lnV,nv0,Option.getD_none,List.getElem?_toArray,List.getElem?_cons_zero,List.getElem?_cons_succ]at p0 p1 p2 p3 p4 p5 p6;clear hX hQ ht;obtain⟨u,rfl⟩:=hF.open;clear hF;refine wp_found (l:=1) (c:=?cc) ?hh ?ww
 case hh=>unfold rlF Tryd.f72;dsimp only;exact rfl
 go_wp2_with fail;have h7:=set7 HX.out.P hp HX.out.bel rfl (.bool false) (.int .i64 0) (.int .i64 0) (.int .i64 0) (.int .i64 0) (.int .i64 0) (.int .i64 0);exact HQ.out _ _ _ _ _ _ _ ⟨rfl,rfl,rfl,rfl,rfl,rfl,rfl,rfl⟩ (by rw[HT.out];exact h7.1) h7.2
theorem pass3(w:World)(p q b:Nat)(tot:Option Row)(K:Exit->Act->World->Prop)(a:Act)(v:World)(h:LJ w p q b tot 3 a v)(hK:∀l' a' v',LJ w p q b tot l' a' v'->muL l' a' v'<muL 3 a v->K (.goto l') a' v'):
 (rlG Tryd.f72 3).wp Tryd.prog K a v:=by
 obtain⟨v6,c,lb,x,o',cap',l',s,hF,hT,hX,h64,hfd,hfit,hsz⟩:=h;have HX:Hid (GotX w p q lb x v):=hX;have HT:Hid (LT w b o' cap' l'):=hT;have H64:Hid (∀c∈s.data.toList,c≠64):=h64;rw[fit_cons_lit c _ _ _ hfd]at hfit;have HB:Hid (Below w.heap.size w v):=hX.bel;have HK:Hid (∀l' a' v',LJ w p q b tot l' a' v'->muL l' a' v'<s.size*10+8->K (.goto l') a' v'):=(by
  intro l' a' v' h1 h2;refine hK l' a' v' h1 ?_;have e:muL 3 a v=s.size*10+8:=by
   unfold muL;rw[Array.getD_eq_getD_getElem?,hF.h10];rfl
  rw[e];exact h2:∀l' a' v',LJ w p q b tot l' a' v'->muL l' a' v'<s.size*10+8->K (.goto l') a' v')
 clear hX hT h64 hfd hK;obtain⟨u,rfl⟩:=hF.open;clear hF;refine wp_found (l:=3) (c:=?cc) ?hh ?ww
 case hh=>unfold rlF Tryd.f72;dsimp only;exact rfl
 cases l' with
 |nil=>
  have HR:Hid (tot=none):=(hfit.symm:tot=none)
  clear hfit;go_wp2_with fail;go_step3;refine HK.out 1 _ _ ⟨_,_,_,_,_,_,⟨rfl,rfl,rfl,rfl,rfl,rfl,rfl,rfl⟩,HX.out,HR.out⟩ ?_;show s.size*10+1<s.size*10+8;omega
 |cons r l''=>
  have hl0:(((l''.length:Int)+1)==0)=false:=by rw[beq_eq_false_iff_ne];omega
  have hl1:(0:Int)<(l''.length:Int)+1:=by omega
  have g0:v.cell? ⟨b,o',none⟩=some (.int .u8 (r.toNat:Int)):=by
   have:=at_byte HT.out.A (k:=0) (by simp);exact(HB.out.cell (p:=⟨b,o',none⟩) HT.out.A.1).trans this
  by_cases hrc:r=c
  ·have hne:((r.toNat:Int) !=(c.toNat:Int))=false:=by rw[hrc];simp
   have HR:Hid (fin lb (fit s.data.toList l'' x)=tot):=(by rw[<-hfit];simp only[hrc,if_true]:fin lb (fit s.data.toList l'' x)=tot)
   clear hfit hrc;have hcl:l''.length+1<=cap':=HT.out.c;have HCL:Hid (l''.length+1<=cap'):=hcl;by_cases hc1:cap'=1
   ·subst hc1
    clear hcl;go_wp2_with fail;go_step3;have hz:l''.length+1-1=0:=by have:=HCL.out;omega
    refine HK.out 0 _ _ ⟨_,_,lb,x,_,_,l'',s,⟨rfl,rfl,rfl,rfl,rfl,rfl,rfl,rfl⟩,HT.out.drop 1 o' (by simp) (.inr hz),HX.out,H64.out,HR.out,hsz⟩ ?_;show s.size*10+5<s.size*10+8;omega
   ·clear hcl
    go_wp2_with fail;go_step3;refine HK.out 0 _ _ ⟨_,_,lb,x,_,_,l'',s,⟨rfl,rfl,rfl,rfl,rfl,rfl,rfl,rfl⟩,HT.out.drop 1 (o'+1) (by simp) (.inl rfl),HX.out,H64.out,HR.out,hsz⟩ ?_;show s.size*10+5<s.size*10+8;omega
  ·have hne:((r.toNat:Int) !=(c.toNat:Int))=true:=by
    rw[bne_iff_ne];intro e;exact hrc (UInt8.toNat_inj.1 (by omega))
   have HR:Hid (tot=none):=(by rw[<-hfit];simp only[hrc,if_false];rfl:tot=none)
   clear hfit hrc;go_wp2_with fail;go_step3;refine HK.out 1 _ _ ⟨_,_,_,_,_,_,⟨rfl,rfl,rfl,rfl,rfl,rfl,rfl,rfl⟩,HX.out,HR.out⟩ ?_;show s.size*10+1<s.size*10+8;omega
end Go.Proofs.YtdbhgaegblclaaaDoor
