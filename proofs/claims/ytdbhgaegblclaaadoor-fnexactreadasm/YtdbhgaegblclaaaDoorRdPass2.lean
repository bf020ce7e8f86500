import Derived.Test.YtdbhgaegblclaaaDoorRdPass
set_option maxHeartbeats 3200000
set_option maxRecDepth 20000
namespace Go.Proofs.YtdbhgaegblclaaaDoor
open Go.RowKit
theorem pass2(w:World)(p q b:Nat)(tot:Option Row)(K:Exit->Act->World->Prop)(hp:w.heap.size<=p)(hpq:p≠q)(hQ:∀(a:Act)(v':World)v5 v6 v7 v9 v10,Frm a (.pointer (some ⟨p,0,none⟩)) v5 v6 v7 v9 v10->v'.heap[p]?=some (.cells (lnA tot) 109)->Below w.heap.size w v'->K .ret a v')(a:Act)(v:World)(h:LJ w p q b tot 2 a v):
 (rlG Tryd.f72 2).wp Tryd.prog K a v:=by
 obtain⟨v6,v7,v10,lb,x,o',cap',l',hF,hT,hX,ht⟩:=h;have HX:Hid (GotX w p q lb x v):=hX;have HQ:Hid (∀(a:Act)(v':World)v5 v6 v7 v9 v10,Frm a (.pointer (some ⟨p,0,none⟩)) v5 v6 v7 v9 v10->v'.heap[p]?=some (.cells (lnA tot) 109)->Below w.heap.size w v'->K .ret a v'):=hQ;have hqp:q≠p:=fun e=>hpq e.symm
 have p0:=hp_cell hX.P 0;have p1:=hp_cell hX.P 1;have p2:=hp_cell hX.P 2;have p3:=hp_cell hX.P 3;have p4:=hp_cell hX.P 4;have p5:=hp_cell hX.P 5;have p6:=hp_cell hX.P 6;have pf:=hp_free hX.P;have q0:=hp_cell hX.X 0;have q1:=hp_cell hX.X 1;have q2:=hp_cell hX.X 2;have q3:=hp_cell hX.X 3;have q4:=hp_cell hX.X 4;have q5:=hp_cell hX.X 5;have q6:=hp_cell hX.X 6;have qf:=hp_free hX.X;simp only[lnA,lnV,nv0,Option.getD_none,List.getElem?_toArray,List.getElem?_cons_zero,List.getElem?_cons_succ]at p0 p1 p2 p3 p4 p5 p6 q0 q1 q2 q3 q4 q5 q6;clear hX hQ hT;obtain⟨u,rfl⟩:=hF.open;clear hF;refine wp_found (l:=2) (c:=?cc) ?hh ?ww
 case hh=>unfold rlF Tryd.f72;dsimp only;exact rfl
 cases l' with
 |cons r l''=>
  have HR:Hid (tot=none):=(ht.symm:tot=none)
  clear ht;have hl0:(((l''.length:Int)+1)==0)=false:=by rw[beq_eq_false_iff_ne];omega
  go_wp2_with fail;go_step3;go_wp2_with fail;have h7:=set7 HX.out.P hp HX.out.bel rfl (.bool false) (.int .i64 0) (.int .i64 0) (.int .i64 0) (.int .i64 0) (.int .i64 0) (.int .i64 0);exact HQ.out _ _ _ _ _ _ _ ⟨rfl,rfl,rfl,rfl,rfl,rfl,rfl,rfl⟩ (by rw[HR.out];exact h7.1) h7.2
 |nil=>
  cases lb with
  |true=>
   have HR:Hid (tot=some (true,x)):=(ht.symm:tot=some (true,x))
   clear ht;go_wp2_with fail;have h7:=set7 HX.out.P hp HX.out.bel rfl (.bool true) (.int .i64 x.op) (.int .i64 x.d) (.int .i64 x.a) (.int .i64 x.b) (.int .i64 x.imm) (.int .i64 x.h);exact HQ.out _ _ _ _ _ _ _ ⟨rfl,rfl,rfl,rfl,rfl,rfl,rfl,rfl⟩ (by rw[HR.out];exact h7.1) h7.2
  |false=>
   have HR0:Hid (tot=if canS x=true then some (false,x)else none):=(by
    rw[<-ht];show(if false=true∨canS x=true then some (false,x)else none)=_;simp:tot=if canS x=true then some (false,x)else none)
   clear ht;go_wp2_with fail;refine(canStand_any x v).mono ?_;rintro e w2⟨rfl,hb2⟩;have HX2:Hid (GotX w p q false x w2):=HX.out.below hb2;have hX:=HX2.out;clear hb2 p0 p1 p2 p3 p4 p5 p6 q0 q1 q2 q3 q4 q5 q6 pf qf;have p0:=hp_cell hX.P 0;have p1:=hp_cell hX.P 1;have p2:=hp_cell hX.P 2;have p3:=hp_cell hX.P 3;have p4:=hp_cell hX.P 4;have p5:=hp_cell hX.P 5;have p6:=hp_cell hX.P 6;have pf:=hp_free hX.P;have q0:=hp_cell hX.X 0;have q1:=hp_cell hX.X 1;have q2:=hp_cell hX.X 2;have q3:=hp_cell hX.X 3;have q4:=hp_cell hX.X 4;have q5:=hp_cell hX.X 5;have q6:=hp_cell hX.X 6;have qf:=hp_free hX.X;simp only[lnA,lnV,nv0,Option.getD_none,List.getElem?_toArray,List.getElem?_cons_zero,List.getElem?_cons_succ]at p0 p1 p2 p3 p4 p5 p6 q0 q1 q2 q3 q4 q5 q6;clear hX;obtain⟨cs,hcs⟩:∃b,canS x=b:=⟨_,rfl⟩
   have HCS:Hid (canS x=cs):=hcs;rw[hcs];clear hcs;cases cs with
   |true=>
    have HR:Hid (tot=some (false,x)):=(by rw[HR0.out,if_pos HCS.out]:tot=some (false,x))
    go_wp2_with fail;have h7:=set7 HX2.out.P hp HX2.out.bel rfl (.bool false) (.int .i64 x.op) (.int .i64 x.d) (.int .i64 x.a) (.int .i64 x.b) (.int .i64 x.imm) (.int .i64 x.h);exact HQ.out _ _ _ _ _ _ _ ⟨rfl,rfl,rfl,rfl,rfl,rfl,rfl,rfl⟩ (by rw[HR.out];exact h7.1) h7.2
   |false=>
    have HR:Hid (tot=none):=(by rw[HR0.out,if_neg (by rw[HCS.out];simp)]:tot=none)
    go_wp2_with fail;go_step3;go_wp2_with fail;have h7:=set7 HX2.out.P hp HX2.out.bel rfl (.bool false) (.int .i64 0) (.int .i64 0) (.int .i64 0) (.int .i64 0) (.int .i64 0) (.int .i64 0);exact HQ.out _ _ _ _ _ _ _ ⟨rfl,rfl,rfl,rfl,rfl,rfl,rfl,rfl⟩ (by rw[HR.out];exact h7.1) h7.2
def TkP(w:World)(p q b:Nat)(lb:Bool)(x:NV)(c:UInt8)(cap:Nat)(l:List UInt8)(v9 v8:Value)(wx:World):Prop:=
 match numAt l with
 |some (vv,n)=>∃o3,v9=.slice (some ⟨b,o3,none⟩) (l.drop n).length (cap-n)/\v8=.bool true/\LT w b o3 (cap-n) (l.drop n)/\GotX w p q lb (setF x c vv) wx
 |none=>v8=.bool false/\GotX w p q lb (setF x c 0) wx
theorem pass4(w:World)(p q b:Nat)(tot:Option Row)(K:Exit->Act->World->Prop)(hq:w.heap.size<=q)(hpq:p≠q)(a:Act)(v:World)(h:LJ w p q b tot 4 a v)(hK:∀l' a' v',LJ w p q b tot l' a' v'->muL l' a' v'<muL 4 a v->K (.goto l') a' v'):
 (rlG Tryd.f72 4).wp Tryd.prog K a v:=by
 obtain⟨v7,lb,x,o',cap',l',s,hF,hT,hX,h64,hhd,hfit,hsz⟩:=h;have HX:Hid (GotX w p q lb x v):=hX;have HT:Hid (LT w b o' cap' l'):=hT;have H64:Hid (∀c∈s.data.toList,c≠64):=h64;have HB:Hid (Below w.heap.size w v):=hX.bel;have HPQ:Hid (p≠q):=hpq;have HK:Hid (∀l' a' v',LJ w p q b tot l' a' v'->muL l' a' v'<s.size*10+8->K (.goto l') a' v'):=(by
  intro l' a' v' h1 h2;refine hK l' a' v' h1 ?_;have e:muL 4 a v=s.size*10+8:=by
   unfold muL;rw[Array.getD_eq_getD_getElem?,hF.h10];rfl
  rw[e];exact h2:∀l' a' v',LJ w p q b tot l' a' v'->muL l' a' v'<s.size*10+8->K (.goto l') a' v')
 clear hX hT h64 hK hpq;obtain⟨u,rfl⟩:=hF.open;clear hF;refine wp_found (l:=4) (c:=?cc) ?hh ?ww
 case hh=>unfold rlF Tryd.f72;dsimp only;exact rfl
 obtain⟨l'',rfl⟩:∃l'',l'=45::l'':=by
  cases l' with
  |nil=>cases hhd
  |cons r l''=>exact⟨l'',by simpa using hhd⟩
 have HF:Hid (fin lb (match numAt l'' with|some (vv,n)=>if vv=0 then none else fit s.data.toList (l''.drop n) (setF x 73 (-vv))|none=>none)=tot):=(by
  rw[<-hfit];show _=fin lb (if isFd 73=true then(match numS ((73:UInt8)==73) (45::l'')with|some (vv,n)=>fit s.data.toList ((45::l'').drop n) (setF x 73 vv)|none=>none)else _);rw[if_pos (show isFd 73=true from rfl)];have e:numS ((73:UInt8)==73) (45::l'')=match numAt l'' with|some (vv,n)=>if vv=0 then none else some (-vv,n+1)|none=>none:=by
   unfold numS;rw[if_pos ⟨rfl,rfl⟩];rfl
  rw[e];rcases numAt l'' with _|⟨vv,n⟩
  ·rfl
  ·simp only
   split
   ·rfl
   ·rfl:fin lb (match numAt l'' with|some (vv,n)=>if vv=0 then none else fit s.data.toList (l''.drop n) (setF x 73 (-vv))|none=>none)=tot)
 have HCL:Hid (l''.length+1<=cap'):=HT.out.c;clear hfit hhd;have hl1:(1:Int)<=(l''.length:Int)+1:=by omega
 have hl2:(1:Int)<=cap':=by have:=HCL.out;omega
 go_upto_region 18 with fail;go_cut [9,6,8]from 78 to 86(fun v9 v6 v8 wx=>v6=.pointer (some ⟨q,5,none⟩)/\TkP w p q b lb x 73 (cap'-1) l'' v9 v8 wx)
 case first=>
  by_cases h1:cap'=1
  ·subst h1
   have HT2:Hid (LT w b o' (1-1) l''):=HT.out.drop 1 o' (by simp) (.inr (by have:=HCL.out;show l''.length+1-1=0;omega));go_wp2_with fail;refine(takeNumber_any b o' (1-1) l'' v HT2.out.n HT2.out.c (HT2.out.A.below HB.out HT2.out.A.1)).mono ?_;rintro e w2⟨hr,hb2⟩;have HX2:Hid (GotX w p q lb x w2):=HX.out.below hb2;have q5:w2.cell? ⟨q,5,none⟩=some (.int .i64 x.imm):=hp_cell HX2.out.X 5;have qf:w2.frozen? ⟨q,5,none⟩=false:=hp_free HX2.out.X 5;clear hb2 HX HB;rcases hn:numAt l'' with _|⟨vv,n⟩
   ·rw[hn]at hr
    have hr:e=.returned (.tuple #[.int .i64 0,_,.bool false]):=hr;subst hr;have HN:Hid (numAt l''=none):=hn;clear hn;go_wp2_with fail;go_meet;refine⟨rfl,?_⟩;unfold TkP;rw[HN.out];exact⟨rfl,HX2.out.put hq HPQ.out rfl⟩
   ·rw[hn]at hr
    obtain⟨o3,rfl,ho3⟩:=hr;have HO3:Hid (o3=o'+n∨l''.length-n=0):=ho3;have HN:Hid (numAt l''=some (vv,n)):=hn;clear hn ho3;go_wp2_with fail;go_meet;refine⟨rfl,?_⟩;unfold TkP;rw[HN.out];exact⟨o3,by simp[List.length_drop],rfl,HT2.out.drop n o3 (num_bound HN.out).2.2.2.2.1 HO3.out,HX2.out.put hq HPQ.out rfl⟩
  ·have HT2:Hid (LT w b (o'+1) (cap'-1) l''):=HT.out.drop 1 (o'+1) (by simp) (.inl rfl)
   go_wp2_with fail;refine(takeNumber_any b (o'+1) (cap'-1) l'' v HT2.out.n HT2.out.c (HT2.out.A.below HB.out HT2.out.A.1)).mono ?_;rintro e w2⟨hr,hb2⟩;have HX2:Hid (GotX w p q lb x w2):=HX.out.below hb2;have q5:w2.cell? ⟨q,5,none⟩=some (.int .i64 x.imm):=hp_cell HX2.out.X 5;have qf:w2.frozen? ⟨q,5,none⟩=false:=hp_free HX2.out.X 5;clear hb2 HX HB;rcases hn:numAt l'' with _|⟨vv,n⟩
   ·rw[hn]at hr
    have hr:e=.returned (.tuple #[.int .i64 0,_,.bool false]):=hr;subst hr;have HN:Hid (numAt l''=none):=hn;clear hn;go_wp2_with fail;go_meet;refine⟨rfl,?_⟩;unfold TkP;rw[HN.out];exact⟨rfl,HX2.out.put hq HPQ.out rfl⟩
   ·rw[hn]at hr
    obtain⟨o3,rfl,ho3⟩:=hr;have HO3:Hid (o3=(o'+1)+n∨l''.length-n=0):=ho3;have HN:Hid (numAt l''=some (vv,n)):=hn;clear hn ho3;go_wp2_with fail;go_meet;refine⟨rfl,?_⟩;unfold TkP;rw[HN.out];exact⟨o3,by simp[List.length_drop],rfl,HT2.out.drop n o3 (num_bound HN.out).2.2.2.2.1 HO3.out,HX2.out.put hq HPQ.out rfl⟩
 case rest=>
  obtain⟨rfl,htk⟩:=hcut;clear HX HB;unfold TkP at htk;rcases hn:numAt l'' with _|⟨vv,n⟩
  ·rw[hn]at htk
   obtain⟨rfl,hX⟩:=htk;have HX:Hid (GotX w p q lb (setF x 73 0) wc):=hX;have HR:Hid (tot=none):=(by rw[<-HF.out,hn];rfl:tot=none)
   clear hX hn;go_wp2_with fail;go_step3;refine HK.out 1 _ _ ⟨_,_,_,_,_,_,⟨rfl,rfl,rfl,rfl,rfl,rfl,rfl,rfl⟩,HX.out,HR.out⟩ ?_;show s.size*10+1<s.size*10+8;omega
  ·rw[hn]at htk
   obtain⟨o3,rfl,rfl,hT3,hX⟩:=htk;have HX:Hid (GotX w p q lb (setF x 73 vv) wc):=hX;have HT3:Hid (LT w b o3 (cap'-1-n) (l''.drop n)):=hT3;have hvb:=num_bound hn;have hv1:0<=vv:=hvb.1;have hv2:vv<1000000000:=hvb.2.1;have HR0:Hid (fin lb (if vv=0 then none else fit s.data.toList (l''.drop n) (setF x 73 (-vv)))=tot):=(by rw[<-HF.out,hn]:fin lb (if vv=0 then none else fit s.data.toList (l''.drop n) (setF x 73 (-vv)))=tot)
   have q5:wc.cell? ⟨q,5,none⟩=some (.int .i64 vv):=hp_cell hX.X 5;have qf:wc.frozen? ⟨q,5,none⟩=false:=hp_free hX.X 5;have w1:IntKind.i64.wrap (-vv)= -vv:=by rw[IntKind.wrap_i64];omega
   clear hX hT3 hn hvb HF;by_cases hv0:vv=0
   ·subst hv0
    have HR:Hid (tot=none):=(by rw[<-HR0.out];rfl:tot=none)
    go_wp2_with fail;go_step3;refine HK.out 1 _ _ ⟨_,_,_,_,_,_,⟨rfl,rfl,rfl,rfl,rfl,rfl,rfl,rfl⟩,HX.out,HR.out⟩ ?_;show s.size*10+1<s.size*10+8;omega
   ·have hv3:(vv==0)=false:=by rw[beq_eq_false_iff_ne];exact hv0
    have HR:Hid (fin lb (fit s.data.toList (l''.drop n) (setF x 73 (-vv)))=tot):=(by rw[<-HR0.out,if_neg hv0]:fin lb (fit s.data.toList (l''.drop n) (setF x 73 (-vv)))=tot)
    clear hv0;go_wp2_with fail;go_step3;refine HK.out 0 _ _ ⟨_,_,lb,setF x 73 (-vv),_,_,l''.drop n,s,⟨rfl,rfl,rfl,rfl,rfl,rfl,rfl,rfl⟩,HT3.out,HX.out.put hq HPQ.out rfl,H64.out,HR.out,hsz⟩ ?_;show s.size*10+5<s.size*10+8;omega
end Go.Proofs.YtdbhgaegblclaaaDoor
