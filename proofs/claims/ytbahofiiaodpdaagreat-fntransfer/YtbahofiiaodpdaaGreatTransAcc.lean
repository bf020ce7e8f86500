import Derived.Test.YtbahofiiaodpdaaGreatOfTransImplT
import Derived.Test.YtbahofiiaodpdaaGreatOfTransResA
namespace Go.Proofs.YtbahofiiaodpdaaGreat
open Go.RowKit
def AccAns(w':World)(g cg:Nat)(e:Ending)(err:Int)(V:Nat->VV)(z c:Int):Prop:=
 (err≠0/\e=.returned (.agg #[.int .i64 err,.slice none 0 0,.int .i64 0,.int .i64 0]))∨(err=0/\e=.returned (.agg #[.int .i64 0,.slice (some ⟨g,0,none⟩) 8 cg,.int .i64 z,.int .i64 c])/\Arr w' g (8*6) (vF V))
def put6(w:World)(b o:Nat)(r:VV):World:=(((((w.setCell ⟨b,o,none⟩ (.int .i64 r.k)).setCell ⟨b,o+1,none⟩ (.bool r.s)).setCell ⟨b,o+2,none⟩ (.int .i64 r.m)).setCell ⟨b,o+3,none⟩ (.int .i64 r.h)).setCell ⟨b,o+4,none⟩ (.int .i64 r.lo)).setCell ⟨b,o+5,none⟩ (.int .i64 r.hi)
theorem regs_set{w:World}{b:Nat}{V:Nat->VV}(h:Arr w b (8*6) (vF V)){d:Nat}(hd:d<8)(r:VV):Arr (put6 w b (d*6) r) b (8*6) (vF (updV V d r)):=by
 refine(Arr.set1 (Arr.set1 (Arr.set1 (Arr.set1 (Arr.set1 (Arr.set1 h (d*6) (by omega) _) (d*6+1) (by omega) _) (d*6+2) (by omega) _) (d*6+3) (by omega) _) (d*6+4) (by omega) _) (d*6+5) (by omega) _).congr (fun i hi=>?_);have hx:=Nat.div_add_mod i 6;have hm:i%6<6:=Nat.mod_lt _ (by decide);simp only[vF,updV];generalize i/6=kk at *;generalize i%6=jj at *;by_cases hk:kk=d
 ·subst hk
  rw[if_pos rfl];match jj,hm with
  |0,_=>rw[if_neg (by omega),if_neg (by omega),if_neg (by omega),if_neg (by omega),if_neg (by omega),if_pos (by omega)];rfl
  |1,_=>rw[if_neg (by omega),if_neg (by omega),if_neg (by omega),if_neg (by omega),if_pos (by omega)];rfl
  |2,_=>rw[if_neg (by omega),if_neg (by omega),if_neg (by omega),if_pos (by omega)];rfl
  |3,_=>rw[if_neg (by omega),if_neg (by omega),if_pos (by omega)];rfl
  |4,_=>rw[if_neg (by omega),if_pos (by omega)];rfl
  |5,_=>rw[if_pos (by omega)];rfl
 ·rw[if_neg hk]
  iterate 6 rw[if_neg (by omega)]
theorem below_put6{B b o:Nat}{w0 w:World}(h:Below B w0 w)(hb:B<=b)(r:VV):Below B w0 (put6 w b o r):=by
 unfold put6;exact(((((h.setCell hb _).setCell hb _).setCell hb _).setCell hb _).setCell hb _).setCell hb _
theorem cl_put6{w:World}{b c o:Nat}{vs:List Value}(h:Cl w c vs)(hne:b≠c)(r:VV):Cl (put6 w b o r) c vs:=
 ⟨by unfold put6;simpa using h.1,fun i hi=>by unfold put6;(iterate 6 refine(World.cell?_setCell_far _ _ _ _ hne).trans ?_);exact h.2 i hi⟩
theorem fz_put6{w:World}{b o:Nat}{a:Addr}(r:VV):(put6 w b o r).frozen? a=w.frozen? a:=by unfold put6;simp
structure AcP(w u:World)(bH nH cH bR nR cR g cg:Nat)(z c op d ra rb imm h:Int)(na nb:Nat)(a b:VV)(V:Nat->VV):Prop where
 bel:Below g w u
 S:Cl u w.heap.size [.slice (some ⟨bH,0,none⟩) nH cH,.slice (some ⟨bR,0,none⟩) nR cR]
 A:Cl u (w.heap.size+1) [.slice (some ⟨g,0,none⟩) 8 cg,.int .i64 z,.int .i64 c]
 I:Cl u (w.heap.size+1+1) [.int .i64 op,.int .i64 d,.int .i64 ra,.int .i64 rb,.int .i64 imm,.int .i64 h]
 R:Cl u (w.heap.size+1+1+1) [.int .i64 0,.slice none 0 0,.int .i64 0,.int .i64 0]
 RF:∀i,u.frozen? ⟨w.heap.size+1+1+1,i,none⟩=false
 a:Cl u na [.int .i64 a.k,.bool a.s,.int .i64 a.m,.int .i64 a.h,.int .i64 a.lo,.int .i64 a.hi]
 b:Cl u nb [.int .i64 b.k,.bool b.s,.int .i64 b.m,.int .i64 b.h,.int .i64 b.lo,.int .i64 b.hi]
 G:Arr u g (8*6) (vF V)
theorem AcP.below{w u v:World}{bH nH cH bR nR cR g cg:Nat}{z c op d ra rb imm h:Int}{na nb:Nat}{a b:VV}{V:Nat->VV}(p:AcP w u bH nH cH bR nR cR g cg z c op d ra rb imm h na nb a b V)(hb:Below u.heap.size u v):AcP w v bH nH cH bR nR cR g cg z c op d ra rb imm h na nb a b V:=
 ⟨p.bel.trans (hb.mono (Nat.le_of_lt p.G.lt)),p.S.below hb,p.A.below hb,p.I.below hb,p.R.below hb,fun i=>(hb.frozen (p:=⟨w.heap.size+1+1+1,i,none⟩) p.R.1).trans (p.RF i),p.a.below hb,p.b.below hb,p.G.below hb p.G.lt⟩
theorem AcP.put{w u:World}{bH nH cH bR nR cR g cg:Nat}{z c op d ra rb imm h:Int}{na nb:Nat}{a b:VV}{V:Nat->VV}(p:AcP w u bH nH cH bR nR cR g cg z c op d ra rb imm h na nb a b V)(hg:g<w.heap.size)(ha:w.heap.size<=na)(hb:w.heap.size<=nb){di:Nat}(hd:di<8)(r:VV):AcP w (put6 u g (di*6) r) bH nH cH bR nR cR g cg z c op d ra rb imm h na nb a b (updV V di r):=
 ⟨below_put6 p.bel (Nat.le_refl _) r,cl_put6 p.S (by omega) r,cl_put6 p.A (by omega) r,cl_put6 p.I (by omega) r,cl_put6 p.R (by omega) r,fun i=>(fz_put6 r).trans (p.RF i),cl_put6 p.a (by omega) r,cl_put6 p.b (by omega) r,regs_set p.G hd r⟩
theorem cl6{u:World}{q:Nat}{a:VV}(h:Cl u q [.int .i64 a.k,.bool a.s,.int .i64 a.m,.int .i64 a.h,.int .i64 a.lo,.int .i64 a.hi]):u.cell? ⟨q,0,none⟩=some (.int .i64 a.k)/\u.cell? ⟨q,1,none⟩=some (.bool a.s)/\u.cell? ⟨q,2,none⟩=some (.int .i64 a.m)/\u.cell? ⟨q,3,none⟩=some (.int .i64 a.h)/\u.cell? ⟨q,4,none⟩=some (.int .i64 a.lo)/\u.cell? ⟨q,5,none⟩=some (.int .i64 a.hi):=
 ⟨h.2 0 (by simp),h.2 1 (by simp),h.2 2 (by simp),h.2 3 (by simp),h.2 4 (by simp),h.2 5 (by simp)⟩
theorem reg_cells{u:World}{g:Nat}{V:Nat->VV}(h:Arr u g (8*6) (vF V))(i:Nat)(hi:i<8):u.cell? ⟨g,i*6,none⟩=some (.int .i64 (V i).k)/\u.cell? ⟨g,i*6+1,none⟩=some (.bool (V i).s)/\u.cell? ⟨g,i*6+2,none⟩=some (.int .i64 (V i).m)/\u.cell? ⟨g,i*6+3,none⟩=some (.int .i64 (V i).h)/\u.cell? ⟨g,i*6+4,none⟩=some (.int .i64 (V i).lo)/\u.cell? ⟨g,i*6+5,none⟩=some (.int .i64 (V i).hi):=
 ⟨(h.cell (i:=i*6+0) (by omega)).trans (congrArg some (vF_at V i 0 (by omega))),(h.cell (i:=i*6+1) (by omega)).trans (congrArg some (vF_at V i 1 (by omega))),(h.cell (i:=i*6+2) (by omega)).trans (congrArg some (vF_at V i 2 (by omega))),(h.cell (i:=i*6+3) (by omega)).trans (congrArg some (vF_at V i 3 (by omega))),(h.cell (i:=i*6+4) (by omega)).trans (congrArg some (vF_at V i 4 (by omega))),(h.cell (i:=i*6+5) (by omega)).trans (congrArg some (vF_at V i 5 (by omega)))⟩
theorem hs_at{u:World}{bH nH:Nat}{S:Nat->HS}(h:Arr u bH (nH*3) (hsF S)){q:Nat}(hq:q<nH):u.cell? ⟨bH,q*3,none⟩=some (.int .i64 (S q).size)/\u.cell? ⟨bH,q*3+1,none⟩=some (.bool (S q).s)/\u.cell? ⟨bH,q*3+2,none⟩=some (.bool (S q).w):=
 ⟨(h.cell (i:=q*3+0) (by omega)).trans (congrArg some (hsF_at S q 0 (by omega))),(h.cell (i:=q*3+1) (by omega)).trans (congrArg some (hsF_at S q 1 (by omega))),(h.cell (i:=q*3+2) (by omega)).trans (congrArg some (hsF_at S q 2 (by omega)))⟩
end Go.Proofs.YtbahofiiaodpdaaGreat
