import Derived.Test.YtplnpgohdgialaaOfUnitMeasure
namespace Go.Proofs.Ytplnpgohdgialaa
open Go.RowKit
structure NV where
 op:Int
 d:Int
 a:Int
 b:Int
 imm:Int
 h:Int
def inL(x:NV):List Value:=[.int .i64 x.op,.int .i64 x.d,.int .i64 x.a,.int .i64 x.b,.int .i64 x.imm,.int .i64 x.h]
def ci(xs:List NV):List Value:=xs.flatMap inL
theorem ci_len(xs:List NV):(ci xs).length=xs.length*6:=by
 induction xs with
 |nil=>rfl
 |cons a l ih=>show(inL a++ci l).length=(l.length+1)*6;rw[List.length_append,ih];show 6+_=_;omega
theorem ci_app(a b:List NV):ci (a++b)=ci a++ci b:=by simp[ci]
theorem ci_one(s:NV):ci [s]=inL s:=by simp[ci]
theorem ci_flat(xs:List NV):∀u∈ci xs,u.oneCell'=true:=by
 intro u hu;simp only[ci,List.mem_flatMap]at hu;obtain⟨s,_,hs⟩:=hu;simp only[inL,List.mem_cons,List.not_mem_nil,or_false]at hs;rcases hs with rfl|rfl|rfl|rfl|rfl|rfl<;>rfl
theorem ci_set4(A R:List NV)(s:NV)(t:Int):(ci (A++s::R)).set (A.length*6+4) (.int .i64 t)=ci (A++{s with imm:=t}::R):=by
 rw[ci_app,ci_app];rw[List.set_append,if_neg (by rw[ci_len];omega),ci_len,show A.length*6+4-A.length*6=4 by omega];rfl
theorem ci_at4(A R:List NV)(s:NV):(ci (A++s::R))[A.length*6+4]?=some (.int .i64 s.imm):=by
 rw[ci_app,List.getElem?_append_right (by rw[ci_len];omega),ci_len,show A.length*6+4-A.length*6=4 by omega];rfl
def insV0(s:SV):NV:=⟨s.op,s.d,s.a,s.b,s.imm,s.h⟩
def notI(cond:Int):Int:=if cond=1 then 31 else if cond=2 then 30 else if cond=3 then 33 else 32
def jmpV(op imm:Int):NV:=⟨op,0,0,0,imm,0⟩
def lowB(L:Nat->SV)(at' i te:Nat):List NV:=
 if _h:i<te then
  if _hs:i+1+(L i).thn.toNat+(L i).els.toNat<=te then
   let n:=i+1+(L i).thn.toNat+(L i).els.toNat
   if(L i).k=1 then insV0 (L i)::lowB L (at'+1) n te
   else if(L i).k=2 then
    let x:=lowB L (at'+1) (i+1) (i+1+(L i).thn.toNat)
    let y:=lowB L (at'+2+x.length) (i+1+(L i).thn.toNat) n
    jmpV (notI (L i).cond) ((at'+2+x.length:Nat):Int)::(x++jmpV 29 ((at'+2+x.length+y.length:Nat):Int)::(y++lowB L (at'+2+x.length+y.length) n te))
   else if(L i).k=3 then
    let x:=lowB L (at'+1) (i+1) (i+1+(L i).thn.toNat)
    jmpV (notI (L i).cond) ((at'+2+x.length:Nat):Int)::(x++jmpV 29 (at':Int)::lowB L (at'+2+x.length) n te)
   else lowB L at' n te
  else[]
 else[]
section
variable{L:Nat->SV}{at' i te:Nat}
theorem lowB_end(h:¬i<te):lowB L at' i te=[]:=by rw[lowB,dif_neg h]
theorem lowB_over(h:i<te)(hs:¬i+1+(L i).thn.toNat+(L i).els.toNat<=te):lowB L at' i te=[]:=by rw[lowB,dif_pos h,dif_neg hs]
theorem lowB_1(h:i<te)(hs:i+1+(L i).thn.toNat+(L i).els.toNat<=te)(k:(L i).k=1):lowB L at' i te=insV0 (L i)::lowB L (at'+1) (i+1+(L i).thn.toNat+(L i).els.toNat) te:=by rw[lowB,dif_pos h,dif_pos hs];simp only[if_pos k]
theorem lowB_2(h:i<te)(hs:i+1+(L i).thn.toNat+(L i).els.toNat<=te)(k:(L i).k=2){x y:List NV}(hx:lowB L (at'+1) (i+1) (i+1+(L i).thn.toNat)=x)(hy:lowB L (at'+2+x.length) (i+1+(L i).thn.toNat) (i+1+(L i).thn.toNat+(L i).els.toNat)=y):
 lowB L at' i te=jmpV (notI (L i).cond) ((at'+2+x.length:Nat):Int)::(x++jmpV 29 ((at'+2+x.length+y.length:Nat):Int)::(y++lowB L (at'+2+x.length+y.length) (i+1+(L i).thn.toNat+(L i).els.toNat) te)):=by
 rw[lowB,dif_pos h,dif_pos hs];simp only[if_neg (show¬(L i).k=1 by omega),if_pos k,hx,hy]
theorem lowB_3(h:i<te)(hs:i+1+(L i).thn.toNat+(L i).els.toNat<=te)(k:(L i).k=3){x:List NV}(hx:lowB L (at'+1) (i+1) (i+1+(L i).thn.toNat)=x):
 lowB L at' i te=jmpV (notI (L i).cond) ((at'+2+x.length:Nat):Int)::(x++jmpV 29 (at':Int)::lowB L (at'+2+x.length) (i+1+(L i).thn.toNat+(L i).els.toNat) te):=by
 rw[lowB,dif_pos h,dif_pos hs];simp only[if_neg (show¬(L i).k=1 by omega),if_neg (show¬(L i).k=2 by omega),if_pos k,hx]
theorem lowB_no(h:i<te)(hs:i+1+(L i).thn.toNat+(L i).els.toNat<=te)(k:¬(L i).k=1/\¬(L i).k=2/\¬(L i).k=3):lowB L at' i te=lowB L at' (i+1+(L i).thn.toNat+(L i).els.toNat) te:=by
 rw[lowB,dif_pos h,dif_pos hs];simp only[if_neg k.1,if_neg k.2.1,if_neg k.2.2]
end
theorem lowB_len{L:Nat->SV}{Z:Nat->Int}(z0:∀i,0<=Z i):∀(m at' i te:Nat),te-i<=m->i<=te->((lowB L at' i te).length:Int)<=szTo L Z te-szTo L Z i:=by
 intro m;induction m with
 |zero=>intro at' i te hm hit;rw[lowB_end (by omega),show i=te by omega];simp
 |succ m ih=>
  intro at' i te hm hit;have mono:=szTo_mono (L:=L) z0 hit;by_cases h:i<te
  rotate_left
  ·rw[lowB_end h];simp;omega
  by_cases hs:i+1+(L i).thn.toNat+(L i).els.toNat<=te
  rotate_left
  ·rw[lowB_over h hs];simp;omega
  have s1:szTo L Z (i+1)=szTo L Z i+wI (L i) Z:=rfl;have w0:=wI_pos (s:=L i) z0;have m1:=szTo_mono (L:=L) z0 (show i+1<=i+1+(L i).thn.toNat by omega);have m2:=szTo_mono (L:=L) z0 (show i+1+(L i).thn.toNat<=i+1+(L i).thn.toNat+(L i).els.toNat by omega);by_cases k1:(L i).k=1
  ·have e3:=ih (at'+1) (i+1+(L i).thn.toNat+(L i).els.toNat) te (by omega) hs
   have hw:wI (L i) Z=1:=by unfold wI;rw[if_pos k1]
   rw[lowB_1 h hs k1];simp only[List.length_cons];omega
  by_cases k2:(L i).k=2
  ·have hw:wI (L i) Z=2:=by unfold wI;rw[if_neg k1,if_neg (by omega)]
   obtain⟨x,hx⟩:∃x,lowB L (at'+1) (i+1) (i+1+(L i).thn.toNat)=x:=⟨_,rfl⟩
   obtain⟨y,hy⟩:∃y,lowB L (at'+2+x.length) (i+1+(L i).thn.toNat) (i+1+(L i).thn.toNat+(L i).els.toNat)=y:=⟨_,rfl⟩
   have e1:=ih (at'+1) (i+1) (i+1+(L i).thn.toNat) (by omega) (by omega);have e2:=ih (at'+2+x.length) (i+1+(L i).thn.toNat) (i+1+(L i).thn.toNat+(L i).els.toNat) (by omega) (by omega);have e3:=ih (at'+2+x.length+y.length) (i+1+(L i).thn.toNat+(L i).els.toNat) te (by omega) hs;rw[hx]at e1;rw[hy]at e2;rw[lowB_2 h hs k2 hx hy];simp only[List.length_cons,List.length_append];omega
  by_cases k3:(L i).k=3
  ·have hw:wI (L i) Z=2:=by unfold wI;rw[if_neg k1,if_neg (by omega)]
   obtain⟨x,hx⟩:∃x,lowB L (at'+1) (i+1) (i+1+(L i).thn.toNat)=x:=⟨_,rfl⟩
   have e1:=ih (at'+1) (i+1) (i+1+(L i).thn.toNat) (by omega) (by omega);have e3:=ih (at'+2+x.length) (i+1+(L i).thn.toNat+(L i).els.toNat) te (by omega) hs;rw[hx]at e1;rw[lowB_3 h hs k3 hx];simp only[List.length_cons,List.length_append];omega
  ·have e3:=ih at' (i+1+(L i).thn.toNat+(L i).els.toNat) te (by omega) hs
   rw[lowB_no h hs ⟨k1,k2,k3⟩];omega
abbrev runB(L:Nat->SV)(n:Nat):Prop:=n<=2000/\(chk L 0 0 321 0 n 0).1=0/\szTo L (fun _=>0) n<2000
def lowR(L:Nat->SV)(n:Nat):List NV:=if runB L n then lowB L 0 0 n++[jmpV 34 0]else[]
theorem info_ins6:(Try.prog.info? 31).map (fun i=>(i.zero,i.size,i.bytes))=some (some (.agg #[.int .i64 0,.int .i64 0,.int .i64 0,.int .i64 0,.int .i64 0,.int .i64 0]),6,48):=by kernel_rfl
theorem cells_new6(w:World)(vs:Array Value)(t:TypeId):∀j u,vs.toList[j]?=some u->(w.alloc (.cells vs t)).cell? ((⟨w.heap.size,0,none⟩:Addr).add j)=some u:=by
 intro j u hj;rw[show((⟨w.heap.size,0,none⟩:Addr).add j)=⟨w.heap.size,j,none⟩by simp[Addr.add];exact fun h=>h.symm];simp at hj;simp[go_sem,hj]
end Go.Proofs.Ytplnpgohdgialaa
