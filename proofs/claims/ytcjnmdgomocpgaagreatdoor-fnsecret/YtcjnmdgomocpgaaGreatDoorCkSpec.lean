import Derived.Test.YtcjnmdgomocpgaaGreatDoorOfCkImpl
set_option maxHeartbeats 16000000
set_option maxRecDepth 20000
namespace Go.Proofs.YtcjnmdgomocpgaaGreatDoor
open Go.RowKit Go.Deep
theorem qE(L:Nat->SV)(i a j:Nat)(b:j<a-i):Qb (seg L i a) j=L (i+j):=by
 unfold Qb seg;rw[KJ,List.getElem?_map,List.getElem?_range b];rfl
theorem SF{w:World}{b n Y:Nat}{L:Nat->SV}(h:Ak w b (n*11) (JW L))(c:n<=Y):SL w (Vs b n Y) (seg L 0 n):=by
 have e:(seg L 0 n).length=n:=by rw[FH];omega
 refine⟨_,Y,by rw[e],AB,Or.inr ⟨b,0,rfl,h.lt,fun i a=>?_⟩⟩;rw[e]at a;rw[Nat.zero_add,h.cell a];unfold JW;rw[qE L 0 n (i/11) AB,Nat.zero_add]
theorem sG(L:Nat->SV):∀(m i d:Nat)(a:Int),d-i<=m->i<=d->(DU L 0 0 321 i d a).1=0->Wl (seg L i d):=by
 intro m;induction m with
 |zero=>intro i d a p q _;rw[J7 AB];exact .nil
 |succ m l=>
  intro i d a p q r;by_cases c:i<d
  rotate_left
  ·rw[J7 c];exact .nil
  obtain⟨o,h,s,u,x⟩:=FX r c;have n:=l _ d a AB h x;have b:=o;unfold BZ at b;by_cases j:(L i).k=1
  ·rw[if_pos j]at b
   simp only[Bool.and_eq_true,decide_eq_true_eq]at b;rw[IG c];have e:i+1+(L i).thn.toNat+(L i).els.toNat=i+1:=AB;rw[e]at n;exact .ins j AB AB n
  ·have A:0<=(L i).thn/\0<=(L i).els:=by
    rw[if_neg j]at b;split at b
    ·simp only[decide_eq_true_eq]at b;omega
    split at b
    ·simp only[decide_eq_true_eq]at b;omega
    split at b
    ·simp only[decide_eq_true_eq]at b;omega
    ·cases b
   have y:=l _ _ _ AB AB s;have z:=l _ _ _ AB AB u;rw[IG c,NZ (show i+1<=i+1+(L i).thn.toNat by omega) (show i+1+(L i).thn.toNat<=d by omega),NZ (show i+1+(L i).thn.toNat<=i+1+(L i).thn.toNat+(L i).els.toNat by omega) h,<-List.append_assoc];exact .node j (by rw[FH];omega) (by rw[FH];omega) y z n
theorem Yi(d a:Int)(e:Option Addr)(m b:Nat)(z c r:Int)(w:World):(Instr.field 89 (.agg #[Vi d,Vi a,.slice e m b,Vi z,Vi c,Vi r]) 0).run Tryz.prog w=.ok (.agg #[Vi d,Vi a,.slice e m b,Vi z,Vi c]) w:=AV
def wC(RR:CR)(B q:Nat)(err at':Int)(ao:Option Addr)(m cap:Nat)(z c:Int)(v:World):Prop:=
 Wv RR err at'/\(err=0->∃(g cg:Nat)(U:Nat->VV)(r:Int),(Value.slice ao m cap)=Vs g 8 cg/\B<=g/\g≠q/\Ak v g (8*6) (vF U)/\RR=.ok ⟨U,z,c⟩ r)
theorem KT(a3:Ru)(bH cH nH:Nat)(S:Nat->HS)(bR cR nR:Nat)(V:Nat->VV)(b n am:Nat)(L:Nat->SV)(w:World)(lH:nH<=1048576)(lR:nR<=1048576)(ln:n<=1048576)(hc:n<=am)(h1:Ck w bH nH S bR nR V)(hA:Ak w b (n*11) (JW L)):
 Ks 6 #[.agg #[.slice (some ⟨bH,0,none⟩) nH cH,.slice (some ⟨bR,0,none⟩) nR cR],.slice (some ⟨b,0,none⟩) n am] w (wX (Ld nH S nR V L n) w):=by
 obtain⟨RR,aI⟩:=Au (Ld nH S nR V L n);rw[aI];have aG:=hxy aI;have O:=hxy h1;have H2:=hxy hA;have ap:=hxy hc;clear aI h1 hA hc;go_enter Tryz.func6,Tryz.ntmps6;go_upto_region 1 with fail;obtain⟨u,hu,pu⟩:=fQ w bH nH cH bR nR cR;rw[hu];have P0:=hxy pu;clear hu pu;obtain⟨s0,s1,sl⟩:=P0.cells;go_wp2_with fail;refine(NC bH cH nH S bR cR nR V u lH lR ⟨O.h.below P0.B O.h.lt,O.r.below P0.B O.r.lt⟩).mono ?_;rintro e u1⟨rfl,hb⟩;have P1:=hxy (P0.below hb);clear hb s0 s1 sl P0;obtain⟨ok,aK⟩:=Au (Db nH S nR V);rw[aK];have aC:=hxy aK;clear aK;cases ok with
 |false=>
  have r0:=P1.res;go_wp2;refine mY (.agg #[.int .i64 11,.int .i64 0,.slice none 0 0,.int .i64 0,.int .i64 0]) (by simp[results,Tryz.results6,go_sem, *]) ⟨Ee P1.B AB _ _ _ _ _,Or.inl ⟨11,0,?_,rfl⟩⟩;rw[<-aG.out,Ld,if_neg (by rw[aC.out];decide)]
 |true=>
 go_wp2_with fail;refine(Ox b n am L u1 ln (H2.below P1.B H2.lt)).mono ?_;rintro e u2⟨rfl,hb⟩;have I:=hxy (P1.below hb);clear hb P1;by_cases ak:Hq L n
 rotate_left
 ·rw[decide_eq_false ak]
  have HN:=hxy ak;clear ak;have r0:=I.res;go_wp2;refine mY (.agg #[.int .i64 12,.int .i64 0,.slice none 0 0,.int .i64 0,.int .i64 0]) (by simp[results,Tryz.results6,go_sem, *]) ⟨Ee I.B AB _ _ _ _ _,Or.inl ⟨12,0,?_,rfl⟩⟩;rw[<-aG.out,Ld,if_pos aC.out,if_neg HN.out]
 rw[decide_eq_true ak];have aF:=hxy ak;clear ak;obtain⟨e8,h8,aY⟩:=Ja aC;have aB:=hxy aY;subst e8;clear aY;have aA:Hid (ET ⟨nH,S,V⟩ (seg L 0 n) 0 ⟨Fe V,0,0⟩ 0=RR):=(by rw[<-aG.out,Ld,if_pos aC.out,if_pos aF.out]:ET ⟨nH,S,V⟩ (seg L 0 n) 0 ⟨Fe V,0,0⟩ 0=RR)
 have az:Hid (BC (seg L 0 n)):=NF a3 (seg L 0 n) (by rw[FH];omega) (sG L n 0 n 0 AB (Nat.zero_le _) aF.2.1);obtain⟨iV,gV,aS,aT,aV⟩:=info_parts LC;have ac:Hid (_/\_/\_/\_):=⟨gV,aS,aT,aV⟩
 clear gV aS aT aV;go_wp2_with fail;go_cut [5](fun s5 wx=>∃(q:Nat)(a l:Int)(M:Option Addr)(m K:Nat)(z c:Int),s5=.pointer (some ⟨q,0,none⟩)/\wx.heap[q]?=some (.cells #[.int .i64 a,.int .i64 l,.slice M m K,.int .i64 z,.int .i64 c] 33)/\U9 w bH nH cH bR 8 cR wx/\wC RR u2.heap.size q a l M m K z c wx/\u2.heap.size<=q)
 case first=>
  have s0:∀w',Bw u2 w'->w'.cell? ⟨w.heap.size,0,none⟩=some (.slice (some ⟨bH,0,none⟩) nH cH):=fun w' h=>(I.below h).cells.1
  have s1:∀w',Bw u2 w'->w'.cell? ⟨w.heap.size,1,none⟩=some (.slice (some ⟨bR,0,none⟩) 8 cR):=fun w' h=>(I.below h).cells.2.1
  have fr:=Yi;refine wp_region_held_drew (S:=fun w'=>Bw u2 w') AV BJ.drew (fun _=>?_);refine EX [0,1,3,4] ?_;have an:Bw u2 u2.drew:=BJ.drew;generalize u2.drew=t0 at an⊢;refine wpAnyH_ready (rs:=[2,9]) AV AX ?_;refine AllReadyH.cons rfl (fun X C=>?_) (AllReadyH.cons rfl (fun X C=>?_) AllReadyH.nil)
  ·skip
   go_simp;obtain⟨t1,aN,aH,aE⟩:∃y,t0.alloc (.cells #[] 47)=y/\Bw t0 y/\y.ownsRow u2.heap.size 47 6 (.slice (some ⟨t0.heap.size,0,none⟩) 0 0) 0 []:=⟨_,rfl,Ai,World.ownsRow_lit t0 #[] 0 an.size (by unfold maxLen;omega) rfl⟩
   rw[aN];have aa:=an.trans (aH.mono an.size);refine C.out _ _ aa (fun _=>?_);clear C X;refine Cn ?_;obtain⟨sv,aM⟩:=Au (Value.slice (some ⟨t0.heap.size,0,none⟩) 0 0);rw[aM]at aE⊢;refine wpAnyH_ready (rs:=[5,9]) AV AX ?_;refine AllReadyH.cons rfl (fun X C=>?_) (AllReadyH.cons rfl (fun X C=>?_) AllReadyH.nil)
   ·skip
    refine DJ rfl (.tmp 16) (.tmp 18) 24 rfl u2.heap.size 47 iV (.agg #[.int .i64 0,.bool false,.int .i64 0,.int .i64 0,.int .i64 0,.int .i64 0]) 6 48 Tryz.underlying24 ac.1 ac.2.1 ac.2.2.1 ac.2.2.2 rfl Ad sv 0 [] rfl aE ⟨bR,0,none⟩ 8 cR (first (8*6) (vF V)) rfl (Aw _ _) (fun j x hj=>?_) (fun x hx=>by obtain⟨j,_,rfl⟩:=Cv hx;exact Nq V j) (by unfold maxLen;omega) AB aa.size ?_
    ·obtain⟨hm,rfl⟩:=Ca hj
     rw[Addr.add_lit,Nat.zero_add];exact((O.r.below I.B O.r.lt).below aa (Nat.lt_of_lt_of_le O.r.lt I.B.size)).cell hm
    intro vD t2 ab J;have hD:t2.ownsRow u2.heap.size 47 6 vD 8 (first (8*6) (vF V)):=by simpa using ab
    obtain⟨gD,cD,ay⟩:=Dy hD AB;subst ay;have ar:u2.heap.size<=gD:=(hD.lt _ rfl).1;have aD:=Gy hD;have ax:∀k,sv.ownBlock=some k->u2.heap.size<=k:=fun k hk=>(aE.lt k hk).1
    have F:Bw u2 t2:=aa.trans (BJ.grown J aa.size ax);clear ab J hD;refine C.out _ _ F (fun _=>?_);clear C X;refine Cn ?_;refine AU 6 ?_;refine wpAnyH_ready (rs:=[7,9]) AV AX ?_;refine AllReadyH.cons rfl (fun X C=>?_) (AllReadyH.cons rfl (fun X C=>?_) AllReadyH.nil)
    ·skip
     go_simp;have s:=az.out bH cH nH S bR cR V gD cD (Fe V) 0 0 0 0 (.slice (some ⟨b,0,none⟩) n am) t2 lH ⟨(O.h.below I.B O.h.lt).below F (Nat.lt_of_lt_of_le O.h.lt I.B.size),(O.r.below I.B O.r.lt).below F (Nat.lt_of_lt_of_le O.r.lt I.B.size)⟩ (Lp aD) aB.1 (SF ((H2.below I.B H2.lt).below F (Nat.lt_of_lt_of_le H2.lt I.B.size)) ap) AB AB AB (by rw[FH];omega);rw[aA.out]at s;refine s.mono ?_;rintro e t3⟨a,l,M,m,K,z,c,rr,rfl,_,_,af,ae,hb⟩;have A:=F.trans (hb.mono F.size);have aJ:=aD.lt;have aX:a=0->∃(g Y:Nat)(U:Nat->VV),(Value.slice M m K)=.slice (some ⟨g,0,none⟩) 8 Y/\u2.heap.size<=g/\Ak t3 g (8*6) (vF U)/\RR=.ok ⟨U,z,c⟩ rr:=fun e0=>by
      obtain⟨g,Y,U,k1,k2,k3,_,k5⟩:=ae e0;have hz:=F.size;rcases k2 with rfl|k2
      ·exact⟨g,Y,U,k1,ar,k3,k5⟩
      ·exact⟨g,Y,U,k1,AB,k3,k5⟩
     clear ae;refine C.out _ _ A (fun _=>?_);clear C X s;unfold DV;refine Cn ?_;refine AU 8 ?_;refine AO 9 rfl (fun X C=>?_);go_simp;obtain⟨D,a6,aQ,d⟩:∃y,t3.alloc (.cells #[.int .i64 0,.int .i64 0,.slice none 0 0,.int .i64 0,.int .i64 0] 33)=y/\Bw t3 y/\y.heap[t3.heap.size]?=some (.cells SN 33):=⟨_,rfl,Ai,Az _ _⟩
     rw[a6];have N:=A.trans (aQ.mono A.size);have ai:=A.size;have E:a=0->∃(g Y:Nat)(U:Nat->VV),(Value.slice M m K)=.slice (some ⟨g,0,none⟩) 8 Y/\u2.heap.size<=g/\g≠t3.heap.size/\Ak D g (8*6) (vF U)/\RR=.ok ⟨U,z,c⟩ rr:=fun e0=>by
      obtain⟨g,Y,U,k1,k2,k3,k5⟩:=aX e0;have hz:=k3.lt;exact⟨g,Y,U,k1,k2,AB,k3.below aQ k3.lt,k5⟩
     refine C.out _ _ N (fun _=>?_);clear C X;refine Cn ?_;refine AO 10 rfl (fun X C=>?_);have c0:D.cell? ⟨t3.heap.size,0,none⟩=some (.int .i64 0):=(AJ d 0).trans rfl;have c1:D.cell? ⟨t3.heap.size,1,none⟩=some (.int .i64 0):=(AJ d 1).trans rfl;have c2:D.cell? ⟨t3.heap.size,2,none⟩=some (.slice none 0 0):=(AJ d 2).trans rfl;have c3:D.cell? ⟨t3.heap.size,3,none⟩=some (.int .i64 0):=(AJ d 3).trans rfl;have c4:D.cell? ⟨t3.heap.size,4,none⟩=some (.int .i64 0):=(AJ d 4).trans rfl;have cf:=CP d;have cl:=Ba d;have hI:=I.below N;obtain⟨q9,aj⟩:=Au (t3.heap.size);rw[aj]at c0 c1 c2 c3 c4 cf cl d ai E⊢;have Q:(((((D.setCell ⟨q9,0,none⟩ (.int .i64 a)).setCell ⟨q9,1,none⟩ (.int .i64 l)).setCell ⟨q9,2,none⟩ (.slice M m K)).setCell ⟨q9,3,none⟩ (.int .i64 z)).setCell ⟨q9,4,none⟩ (.int .i64 c)).heap[q9]?=some (.cells #[.int .i64 a,.int .i64 l,.slice M m K,.int .i64 z,.int .i64 c] 33):=BG (BG (BG (BG (BG d 0 _) 1 _) 2 _) 3 _) 4 _;have o:Ft q9 D (((((D.setCell ⟨q9,0,none⟩ (.int .i64 a)).setCell ⟨q9,1,none⟩ (.int .i64 l)).setCell ⟨q9,2,none⟩ (.slice M m K)).setCell ⟨q9,3,none⟩ (.int .i64 z)).setCell ⟨q9,4,none⟩ (.int .i64 c)):=(((((Ft.refl _ _).set _ _).set _ _).set _ _).set _ _).set _ _;have ad:=hI.ft o (by have:=Ba I.R;omega);have hO:wC RR u2.heap.size q9 a l M m K z c (((((D.setCell ⟨q9,0,none⟩ (.int .i64 a)).setCell ⟨q9,1,none⟩ (.int .i64 l)).setCell ⟨q9,2,none⟩ (.slice M m K)).setCell ⟨q9,3,none⟩ (.int .i64 z)).setCell ⟨q9,4,none⟩ (.int .i64 c)):=⟨af,fun e0=>by
      obtain⟨g,Y,U,k1,k2,ah,k3,k5⟩:=E e0;exact⟨g,Y,U,rr,k1,k2,ah,Ak.blk k3 (o.block g k3.lt ah),k5⟩⟩
     have ag:Bw u2 (((((D.setCell ⟨q9,0,none⟩ (.int .i64 a)).setCell ⟨q9,1,none⟩ (.int .i64 l)).setCell ⟨q9,2,none⟩ (.slice M m K)).setCell ⟨q9,3,none⟩ (.int .i64 z)).setCell ⟨q9,4,none⟩ (.int .i64 c)):=N.trans ⟨o.os,o.tape,o.output,o.size,fun k hk=>o.block k (by have:=N.size;omega) AB⟩;have HE:Hid (_/\_/\_/\_):=⟨Q,ad,hO,ai⟩
     go_simp;refine C.out _ _ ag (fun _=>?_);clear C X c0 c1 c2 c3 c4 cf cl Q o hI ad hO ag af E fr s0 s1 d;refine Cn ?_;refine wpAnyH_done AV ?_ _;go_wp2_with fail;go_meet;exact⟨q9,a,l,M,m,K,z,c,rfl,HE⟩
    ·skip
     go_simp;obtain⟨t3,a5,aP,Z⟩:∃y,t2.alloc (.cells #[.int .i64 0,.int .i64 0,.slice none 0 0,.int .i64 0,.int .i64 0] 33)=y/\Bw t2 y/\y.heap[t2.heap.size]?=some (.cells SN 33):=⟨_,rfl,Ai,Az _ _⟩
     rw[a5];have A:=F.trans (aP.mono F.size);have ai:=F.size;have au:gD≠t2.heap.size:=by have:=aD.lt;omega
     have aD:=aD.below aP aD.lt;refine C.out _ _ A (fun _=>?_);clear C X;refine Cn ?_;refine AO 7 rfl (fun X C=>?_);go_simp;have s:=az.out bH cH nH S bR cR V gD cD (Fe V) 0 0 0 0 (.slice (some ⟨b,0,none⟩) n am) t3 lH ⟨(O.h.below I.B O.h.lt).below A (Nat.lt_of_lt_of_le O.h.lt I.B.size),(O.r.below I.B O.r.lt).below A (Nat.lt_of_lt_of_le O.r.lt I.B.size)⟩ (Lp aD) aB.1 (SF ((H2.below I.B H2.lt).below A (Nat.lt_of_lt_of_le H2.lt I.B.size)) ap) AB AB AB (by rw[FH];omega);rw[aA.out]at s;refine s.mono ?_;rintro e D⟨a,l,M,m,K,z,c,rr,rfl,_,_,af,ae,hb⟩;have N:=A.trans (hb.mono A.size);have aJ:=aD.lt;have d:D.heap[t2.heap.size]?=some (.cells SN 33):=(hb.block _ (Ba Z)).trans Z;have aZ:=Ba Z;have E:a=0->∃(g Y:Nat)(U:Nat->VV),(Value.slice M m K)=.slice (some ⟨g,0,none⟩) 8 Y/\u2.heap.size<=g/\g≠t2.heap.size/\Ak D g (8*6) (vF U)/\RR=.ok ⟨U,z,c⟩ rr:=fun e0=>by
      obtain⟨g,Y,U,k1,k2,k3,_,k5⟩:=ae e0;have hz:=A.size;rcases k2 with rfl|k2
      ·exact⟨g,Y,U,k1,ar,au,k3,k5⟩
      ·exact⟨g,Y,U,k1,AB,AB,k3,k5⟩
     clear ae;refine C.out _ _ N (fun _=>?_);clear C X s;unfold DV;refine Cn ?_;refine AU 8 ?_;refine AO 10 rfl (fun X C=>?_);have c0:D.cell? ⟨t2.heap.size,0,none⟩=some (.int .i64 0):=(AJ d 0).trans rfl;have c1:D.cell? ⟨t2.heap.size,1,none⟩=some (.int .i64 0):=(AJ d 1).trans rfl;have c2:D.cell? ⟨t2.heap.size,2,none⟩=some (.slice none 0 0):=(AJ d 2).trans rfl;have c3:D.cell? ⟨t2.heap.size,3,none⟩=some (.int .i64 0):=(AJ d 3).trans rfl;have c4:D.cell? ⟨t2.heap.size,4,none⟩=some (.int .i64 0):=(AJ d 4).trans rfl;have cf:=CP d;have cl:=Ba d;have hI:=I.below N;obtain⟨q9,aj⟩:=Au (t2.heap.size);rw[aj]at c0 c1 c2 c3 c4 cf cl d ai E⊢;have Q:(((((D.setCell ⟨q9,0,none⟩ (.int .i64 a)).setCell ⟨q9,1,none⟩ (.int .i64 l)).setCell ⟨q9,2,none⟩ (.slice M m K)).setCell ⟨q9,3,none⟩ (.int .i64 z)).setCell ⟨q9,4,none⟩ (.int .i64 c)).heap[q9]?=some (.cells #[.int .i64 a,.int .i64 l,.slice M m K,.int .i64 z,.int .i64 c] 33):=BG (BG (BG (BG (BG d 0 _) 1 _) 2 _) 3 _) 4 _;have o:Ft q9 D (((((D.setCell ⟨q9,0,none⟩ (.int .i64 a)).setCell ⟨q9,1,none⟩ (.int .i64 l)).setCell ⟨q9,2,none⟩ (.slice M m K)).setCell ⟨q9,3,none⟩ (.int .i64 z)).setCell ⟨q9,4,none⟩ (.int .i64 c)):=(((((Ft.refl _ _).set _ _).set _ _).set _ _).set _ _).set _ _;have ad:=hI.ft o (by have:=Ba I.R;omega);have hO:wC RR u2.heap.size q9 a l M m K z c (((((D.setCell ⟨q9,0,none⟩ (.int .i64 a)).setCell ⟨q9,1,none⟩ (.int .i64 l)).setCell ⟨q9,2,none⟩ (.slice M m K)).setCell ⟨q9,3,none⟩ (.int .i64 z)).setCell ⟨q9,4,none⟩ (.int .i64 c)):=⟨af,fun e0=>by
      obtain⟨g,Y,U,k1,k2,ah,k3,k5⟩:=E e0;exact⟨g,Y,U,rr,k1,k2,ah,Ak.blk k3 (o.block g k3.lt ah),k5⟩⟩
     have ag:Bw u2 (((((D.setCell ⟨q9,0,none⟩ (.int .i64 a)).setCell ⟨q9,1,none⟩ (.int .i64 l)).setCell ⟨q9,2,none⟩ (.slice M m K)).setCell ⟨q9,3,none⟩ (.int .i64 z)).setCell ⟨q9,4,none⟩ (.int .i64 c)):=N.trans ⟨o.os,o.tape,o.output,o.size,fun k hk=>o.block k (by have:=N.size;omega) AB⟩;have HE:Hid (_/\_/\_/\_):=⟨Q,ad,hO,ai⟩
     go_simp;refine C.out _ _ ag (fun _=>?_);clear C X c0 c1 c2 c3 c4 cf cl Q o hI ad hO ag af E fr s0 s1 d;refine Cn ?_;refine wpAnyH_done AV ?_ _;go_wp2_with fail;go_meet;exact⟨q9,a,l,M,m,K,z,c,rfl,HE⟩
   ·skip
    go_simp;obtain⟨t2,aO,av,aw⟩:∃y,t1.alloc (.cells #[.int .i64 0,.int .i64 0,.slice none 0 0,.int .i64 0,.int .i64 0] 33)=y/\Bw t1 y/\y.heap[t1.heap.size]?=some (.cells SN 33):=⟨_,rfl,Ai,Az _ _⟩
    rw[aO];have F:=aa.trans (av.mono aa.size);have ai:=aa.size;have al:=BM aE av;refine C.out _ _ F (fun _=>?_);clear C X;refine Cn ?_;refine AO 5 rfl (fun X C=>?_);refine DJ rfl (.tmp 16) (.tmp 18) 24 rfl u2.heap.size 47 iV (.agg #[.int .i64 0,.bool false,.int .i64 0,.int .i64 0,.int .i64 0,.int .i64 0]) 6 48 Tryz.underlying24 ac.1 ac.2.1 ac.2.2.1 ac.2.2.2 rfl Ad sv 0 [] rfl al ⟨bR,0,none⟩ 8 cR (first (8*6) (vF V)) rfl (Aw _ _) (fun j x hj=>?_) (fun x hx=>by obtain⟨j,_,rfl⟩:=Cv hx;exact Nq V j) (by unfold maxLen;omega) AB F.size ?_
    ·obtain⟨hm,rfl⟩:=Ca hj
     rw[Addr.add_lit,Nat.zero_add];exact((O.r.below I.B O.r.lt).below F (Nat.lt_of_lt_of_le O.r.lt I.B.size)).cell hm
    intro vD t3 ab J;have hD:t3.ownsRow u2.heap.size 47 6 vD 8 (first (8*6) (vF V)):=by simpa using ab
    obtain⟨gD,cD,ay⟩:=Dy hD AB;subst ay;have ar:u2.heap.size<=gD:=(hD.lt _ rfl).1;have aD:=Gy hD;have ax:∀k,sv.ownBlock=some k->u2.heap.size<=k:=fun k hk=>(al.lt k hk).1
    have A:Bw u2 t3:=F.trans (BJ.grown J F.size ax);have Z:t3.heap[t1.heap.size]?=some (.cells SN 33):=Be aw J (Ar aw al Ad);have au:gD≠t1.heap.size:=fun e=>Ar Z hD Ad (by rw[<-e];rfl)
    clear ab J hD;refine C.out _ _ A (fun _=>?_);clear C X;refine Cn ?_;refine AU 6 ?_;refine AO 7 rfl (fun X C=>?_);go_simp;have s:=az.out bH cH nH S bR cR V gD cD (Fe V) 0 0 0 0 (.slice (some ⟨b,0,none⟩) n am) t3 lH ⟨(O.h.below I.B O.h.lt).below A (Nat.lt_of_lt_of_le O.h.lt I.B.size),(O.r.below I.B O.r.lt).below A (Nat.lt_of_lt_of_le O.r.lt I.B.size)⟩ (Lp aD) aB.1 (SF ((H2.below I.B H2.lt).below A (Nat.lt_of_lt_of_le H2.lt I.B.size)) ap) AB AB AB (by rw[FH];omega);rw[aA.out]at s;refine s.mono ?_;rintro e D⟨a,l,M,m,K,z,c,rr,rfl,_,_,af,ae,hb⟩;have N:=A.trans (hb.mono A.size);have aJ:=aD.lt;have d:D.heap[t1.heap.size]?=some (.cells SN 33):=(hb.block _ (Ba Z)).trans Z;have aZ:=Ba Z;have E:a=0->∃(g Y:Nat)(U:Nat->VV),(Value.slice M m K)=.slice (some ⟨g,0,none⟩) 8 Y/\u2.heap.size<=g/\g≠t1.heap.size/\Ak D g (8*6) (vF U)/\RR=.ok ⟨U,z,c⟩ rr:=fun e0=>by
     obtain⟨g,Y,U,k1,k2,k3,_,k5⟩:=ae e0;have hz:=A.size;rcases k2 with rfl|k2
     ·exact⟨g,Y,U,k1,ar,au,k3,k5⟩
     ·exact⟨g,Y,U,k1,AB,AB,k3,k5⟩
    clear ae;refine C.out _ _ N (fun _=>?_);clear C X s;unfold DV;refine Cn ?_;refine AU 8 ?_;refine AO 10 rfl (fun X C=>?_);have c0:D.cell? ⟨t1.heap.size,0,none⟩=some (.int .i64 0):=(AJ d 0).trans rfl;have c1:D.cell? ⟨t1.heap.size,1,none⟩=some (.int .i64 0):=(AJ d 1).trans rfl;have c2:D.cell? ⟨t1.heap.size,2,none⟩=some (.slice none 0 0):=(AJ d 2).trans rfl;have c3:D.cell? ⟨t1.heap.size,3,none⟩=some (.int .i64 0):=(AJ d 3).trans rfl;have c4:D.cell? ⟨t1.heap.size,4,none⟩=some (.int .i64 0):=(AJ d 4).trans rfl;have cf:=CP d;have cl:=Ba d;have hI:=I.below N;obtain⟨q9,aj⟩:=Au (t1.heap.size);rw[aj]at c0 c1 c2 c3 c4 cf cl d ai E⊢;have Q:(((((D.setCell ⟨q9,0,none⟩ (.int .i64 a)).setCell ⟨q9,1,none⟩ (.int .i64 l)).setCell ⟨q9,2,none⟩ (.slice M m K)).setCell ⟨q9,3,none⟩ (.int .i64 z)).setCell ⟨q9,4,none⟩ (.int .i64 c)).heap[q9]?=some (.cells #[.int .i64 a,.int .i64 l,.slice M m K,.int .i64 z,.int .i64 c] 33):=BG (BG (BG (BG (BG d 0 _) 1 _) 2 _) 3 _) 4 _;have o:Ft q9 D (((((D.setCell ⟨q9,0,none⟩ (.int .i64 a)).setCell ⟨q9,1,none⟩ (.int .i64 l)).setCell ⟨q9,2,none⟩ (.slice M m K)).setCell ⟨q9,3,none⟩ (.int .i64 z)).setCell ⟨q9,4,none⟩ (.int .i64 c)):=(((((Ft.refl _ _).set _ _).set _ _).set _ _).set _ _).set _ _;have ad:=hI.ft o (by have:=Ba I.R;omega);have hO:wC RR u2.heap.size q9 a l M m K z c (((((D.setCell ⟨q9,0,none⟩ (.int .i64 a)).setCell ⟨q9,1,none⟩ (.int .i64 l)).setCell ⟨q9,2,none⟩ (.slice M m K)).setCell ⟨q9,3,none⟩ (.int .i64 z)).setCell ⟨q9,4,none⟩ (.int .i64 c)):=⟨af,fun e0=>by
     obtain⟨g,Y,U,k1,k2,ah,k3,k5⟩:=E e0;exact⟨g,Y,U,rr,k1,k2,ah,Ak.blk k3 (o.block g k3.lt ah),k5⟩⟩
    have ag:Bw u2 (((((D.setCell ⟨q9,0,none⟩ (.int .i64 a)).setCell ⟨q9,1,none⟩ (.int .i64 l)).setCell ⟨q9,2,none⟩ (.slice M m K)).setCell ⟨q9,3,none⟩ (.int .i64 z)).setCell ⟨q9,4,none⟩ (.int .i64 c)):=N.trans ⟨o.os,o.tape,o.output,o.size,fun k hk=>o.block k (by have:=N.size;omega) AB⟩;have HE:Hid (_/\_/\_/\_):=⟨Q,ad,hO,ai⟩
    go_simp;refine C.out _ _ ag (fun _=>?_);clear C X c0 c1 c2 c3 c4 cf cl Q o hI ad hO ag af E fr s0 s1 d;refine Cn ?_;refine wpAnyH_done AV ?_ _;go_wp2_with fail;go_meet;exact⟨q9,a,l,M,m,K,z,c,rfl,HE⟩
  ·skip
   go_simp;obtain⟨t1,aN,aH,aR⟩:∃y,t0.alloc (.cells #[.int .i64 0,.int .i64 0,.slice none 0 0,.int .i64 0,.int .i64 0] 33)=y/\Bw t0 y/\y.heap[t0.heap.size]?=some (.cells SN 33):=⟨_,rfl,Ai,Az _ _⟩
   rw[aN];have aa:=an.trans (aH.mono an.size);have ai:=an.size;refine C.out _ _ aa (fun _=>?_);clear C X;refine Cn ?_;refine AO 2 rfl (fun X C=>?_);go_simp;obtain⟨t2,aO,av,al⟩:∃y,t1.alloc (.cells #[] 47)=y/\Bw t1 y/\y.ownsRow u2.heap.size 47 6 (.slice (some ⟨t1.heap.size,0,none⟩) 0 0) 0 []:=⟨_,rfl,Ai,World.ownsRow_lit t1 #[] 0 aa.size (by unfold maxLen;omega) rfl⟩
   rw[aO];have F:=aa.trans (av.mono aa.size);refine C.out _ _ F (fun _=>?_);clear C X;refine Cn ?_;have aw:t2.heap[t0.heap.size]?=some (.cells SN 33):=(av.block _ (Ba aR)).trans aR;obtain⟨sv,aM⟩:=Au (Value.slice (some ⟨t1.heap.size,0,none⟩) 0 0);rw[aM]at al⊢;refine AO 5 rfl (fun X C=>?_);refine DJ rfl (.tmp 16) (.tmp 18) 24 rfl u2.heap.size 47 iV (.agg #[.int .i64 0,.bool false,.int .i64 0,.int .i64 0,.int .i64 0,.int .i64 0]) 6 48 Tryz.underlying24 ac.1 ac.2.1 ac.2.2.1 ac.2.2.2 rfl Ad sv 0 [] rfl al ⟨bR,0,none⟩ 8 cR (first (8*6) (vF V)) rfl (Aw _ _) (fun j x hj=>?_) (fun x hx=>by obtain⟨j,_,rfl⟩:=Cv hx;exact Nq V j) (by unfold maxLen;omega) AB F.size ?_
   ·obtain⟨hm,rfl⟩:=Ca hj
    rw[Addr.add_lit,Nat.zero_add];exact((O.r.below I.B O.r.lt).below F (Nat.lt_of_lt_of_le O.r.lt I.B.size)).cell hm
   intro vD t3 ab J;have hD:t3.ownsRow u2.heap.size 47 6 vD 8 (first (8*6) (vF V)):=by simpa using ab
   obtain⟨gD,cD,ay⟩:=Dy hD AB;subst ay;have ar:u2.heap.size<=gD:=(hD.lt _ rfl).1;have aD:=Gy hD;have ax:∀k,sv.ownBlock=some k->u2.heap.size<=k:=fun k hk=>(al.lt k hk).1
   have A:Bw u2 t3:=F.trans (BJ.grown J F.size ax);have Z:t3.heap[t0.heap.size]?=some (.cells SN 33):=Be aw J (Ar aw al Ad);have au:gD≠t0.heap.size:=fun e=>Ar Z hD Ad (by rw[<-e];rfl)
   clear ab J hD;refine C.out _ _ A (fun _=>?_);clear C X;refine Cn ?_;refine AU 6 ?_;refine AO 7 rfl (fun X C=>?_);go_simp;have s:=az.out bH cH nH S bR cR V gD cD (Fe V) 0 0 0 0 (.slice (some ⟨b,0,none⟩) n am) t3 lH ⟨(O.h.below I.B O.h.lt).below A (Nat.lt_of_lt_of_le O.h.lt I.B.size),(O.r.below I.B O.r.lt).below A (Nat.lt_of_lt_of_le O.r.lt I.B.size)⟩ (Lp aD) aB.1 (SF ((H2.below I.B H2.lt).below A (Nat.lt_of_lt_of_le H2.lt I.B.size)) ap) AB AB AB (by rw[FH];omega);rw[aA.out]at s;refine s.mono ?_;rintro e D⟨a,l,M,m,K,z,c,rr,rfl,_,_,af,ae,hb⟩;have N:=A.trans (hb.mono A.size);have aJ:=aD.lt;have d:D.heap[t0.heap.size]?=some (.cells SN 33):=(hb.block _ (Ba Z)).trans Z;have aZ:=Ba Z;have E:a=0->∃(g Y:Nat)(U:Nat->VV),(Value.slice M m K)=.slice (some ⟨g,0,none⟩) 8 Y/\u2.heap.size<=g/\g≠t0.heap.size/\Ak D g (8*6) (vF U)/\RR=.ok ⟨U,z,c⟩ rr:=fun e0=>by
    obtain⟨g,Y,U,k1,k2,k3,_,k5⟩:=ae e0;have hz:=A.size;rcases k2 with rfl|k2
    ·exact⟨g,Y,U,k1,ar,au,k3,k5⟩
    ·exact⟨g,Y,U,k1,AB,AB,k3,k5⟩
   clear ae;refine C.out _ _ N (fun _=>?_);clear C X s;unfold DV;refine Cn ?_;refine AU 8 ?_;refine AO 10 rfl (fun X C=>?_);have c0:D.cell? ⟨t0.heap.size,0,none⟩=some (.int .i64 0):=(AJ d 0).trans rfl;have c1:D.cell? ⟨t0.heap.size,1,none⟩=some (.int .i64 0):=(AJ d 1).trans rfl;have c2:D.cell? ⟨t0.heap.size,2,none⟩=some (.slice none 0 0):=(AJ d 2).trans rfl;have c3:D.cell? ⟨t0.heap.size,3,none⟩=some (.int .i64 0):=(AJ d 3).trans rfl;have c4:D.cell? ⟨t0.heap.size,4,none⟩=some (.int .i64 0):=(AJ d 4).trans rfl;have cf:=CP d;have cl:=Ba d;have hI:=I.below N;obtain⟨q9,aj⟩:=Au (t0.heap.size);rw[aj]at c0 c1 c2 c3 c4 cf cl d ai E⊢;have Q:(((((D.setCell ⟨q9,0,none⟩ (.int .i64 a)).setCell ⟨q9,1,none⟩ (.int .i64 l)).setCell ⟨q9,2,none⟩ (.slice M m K)).setCell ⟨q9,3,none⟩ (.int .i64 z)).setCell ⟨q9,4,none⟩ (.int .i64 c)).heap[q9]?=some (.cells #[.int .i64 a,.int .i64 l,.slice M m K,.int .i64 z,.int .i64 c] 33):=BG (BG (BG (BG (BG d 0 _) 1 _) 2 _) 3 _) 4 _;have o:Ft q9 D (((((D.setCell ⟨q9,0,none⟩ (.int .i64 a)).setCell ⟨q9,1,none⟩ (.int .i64 l)).setCell ⟨q9,2,none⟩ (.slice M m K)).setCell ⟨q9,3,none⟩ (.int .i64 z)).setCell ⟨q9,4,none⟩ (.int .i64 c)):=(((((Ft.refl _ _).set _ _).set _ _).set _ _).set _ _).set _ _;have ad:=hI.ft o (by have:=Ba I.R;omega);have hO:wC RR u2.heap.size q9 a l M m K z c (((((D.setCell ⟨q9,0,none⟩ (.int .i64 a)).setCell ⟨q9,1,none⟩ (.int .i64 l)).setCell ⟨q9,2,none⟩ (.slice M m K)).setCell ⟨q9,3,none⟩ (.int .i64 z)).setCell ⟨q9,4,none⟩ (.int .i64 c)):=⟨af,fun e0=>by
    obtain⟨g,Y,U,k1,k2,ah,k3,k5⟩:=E e0;exact⟨g,Y,U,rr,k1,k2,ah,Ak.blk k3 (o.block g k3.lt ah),k5⟩⟩
   have ag:Bw u2 (((((D.setCell ⟨q9,0,none⟩ (.int .i64 a)).setCell ⟨q9,1,none⟩ (.int .i64 l)).setCell ⟨q9,2,none⟩ (.slice M m K)).setCell ⟨q9,3,none⟩ (.int .i64 z)).setCell ⟨q9,4,none⟩ (.int .i64 c)):=N.trans ⟨o.os,o.tape,o.output,o.size,fun k hk=>o.block k (by have:=N.size;omega) AB⟩;have HE:Hid (_/\_/\_/\_):=⟨Q,ad,hO,ai⟩
   go_simp;refine C.out _ _ ag (fun _=>?_);clear C X c0 c1 c2 c3 c4 cf cl Q o hI ad hO ag af E fr s0 s1 d;refine Cn ?_;refine wpAnyH_done AV ?_ _;go_wp2_with fail;go_meet;exact⟨q9,a,l,M,m,K,z,c,rfl,HE⟩
 case rest=>
 obtain⟨q,a,l,M,m,K,z,c,rfl,hq,hI,hO,ba⟩:=hcut;have HQ:=hxy hq;have P3:=hxy hI;have HO:=hxy hO;have bb:=Ba I.R;clear hq hI hO I;generalize wc=u3 at *;have c0:=(AJ HQ 0).trans rfl;have c1:=(AJ HQ 1).trans rfl;have c2:=(AJ HQ 2).trans rfl;have c3:=(AJ HQ 3).trans rfl;have c4:=(AJ HQ 4).trans rfl;have cf:=CP HQ;have cl:=Ba HQ;have r0:=P3.res;have a9:q≠w.heap.size+1:=AB;have a7:w.heap.size+1≠q:=AB;by_cases h0:a=0
 ·subst h0
  obtain⟨g,Y,U,rr,hv,hg,au,aU,hR⟩:=HO.2 rfl;simp only[Value.slice.injEq]at hv;obtain⟨rfl,rfl,rfl⟩:=hv;have HE:Hid (Ak u3 g (8*6) (vF U)/\RR=.ok ⟨U,z,c⟩ rr):=⟨aU,hR⟩
  clear aU hR;have a4:l=0:=HO.1.2 rfl;subst a4;have a8:w.heap.size+1≠g:=AB;have a1:Hid (w.heap.size<=g):=(by omega:w.heap.size<=g)
  go_wp2;refine mY (.agg #[.int .i64 0,.int .i64 0,.slice (some ⟨g,0,none⟩) 8 K,.int .i64 z,.int .i64 c]) (by simp[results,Tryz.results6,go_sem, *]) ⟨Ee P3.B AB _ _ _ _ _,Or.inr ⟨⟨U,z,c⟩,rr,g,K,HE.2,a1,rfl,?_⟩⟩;iterate 5 refine Ak.other ?_ (by show w.heap.size+1≠g;omega) _
  exact HE.1
 ·have e0:(a !=0)=true:=by simp[h0]
  have a2:=hxy h0;clear h0;have aW:Bw w (((u3.setCell ⟨q,2,none⟩ (.slice none 0 0)).setCell ⟨q,3,none⟩ (.int .i64 0)).setCell ⟨q,4,none⟩ (.int .i64 0)):=((P3.B.setCell (p:=⟨q,2,none⟩) (show w.heap.size<=q by omega) _).setCell (p:=⟨q,3,none⟩) (show w.heap.size<=q by omega) _).setCell (p:=⟨q,4,none⟩) (show w.heap.size<=q by omega) _;have a0:Hid _:=aW;clear aW;go_wp2;refine mY (.agg #[.int .i64 a,.int .i64 l,.slice none 0 0,.int .i64 0,.int .i64 0]) (by simp[results,Tryz.results6,go_sem, *]) ⟨Ee a0 AB _ _ _ _ _,Or.inl ⟨a,l,HO.1.1 a2,rfl⟩⟩
end Go.Proofs.YtcjnmdgomocpgaaGreatDoor
