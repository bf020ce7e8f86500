import Derived.Test.YtdbhgaegblclaaaDoorRdRead
namespace Go.Proofs.YtdbhgaegblclaaaDoor
open Go.RowKit
theorem numS_small{sg:Bool}{l:List UInt8}{v:Int}{n:Nat}(h:numS sg l=some (v,n)): -1000000000<v/\v<1000000000:=by
 unfold numS at h;split at h
 ·rcases hna:numAt l.tail with _|⟨v',n'⟩
  ·rw[hna]at h;cases h
  ·rw[hna]at h
   simp only at h;split at h
   ·cases h
   ·have:=num_bound hna
    simp only[Option.some.injEq,Prod.mk.injEq]at h;omega
 ·have:=num_bound h
  omega
theorem fit_imm:∀(ps l:List UInt8)(x y:NV),fit ps l x=some y->(-1000000000<x.imm/\x.imm<1000000000)->(-1000000000<y.imm/\y.imm<1000000000)/\y.op=x.op
 |[],l,x,y,h,hx=>by
  unfold fit at h;split at h
  ·cases h;exact⟨hx,rfl⟩
  ·cases h
 |c::ps,l,x,y,h,hx=>by
  unfold fit at h;split at h
  ·rcases hn:numS (c==73) l with _|⟨v,n⟩
   ·rw[hn]at h;cases h
   ·rw[hn]at h
    simp only at h;have hv:=numS_small hn;have hs:(-1000000000<(setF x c v).imm/\(setF x c v).imm<1000000000)/\(setF x c v).op=x.op:=by
     unfold setF;repeat' split
     all_goals first|exact⟨hx,rfl⟩|exact⟨hv,rfl⟩
    have:=fit_imm ps _ _ y h hs.1;exact⟨this.1,this.2.trans hs.2⟩
  ·cases l with
   |nil=>cases h
   |cons r l'=>
    simp only at h;split at h
    ·exact fit_imm ps l' x y h hx
    ·cases h
theorem line_wf{d:Int}{l:List UInt8}{r:Row}(h:rdLine d l=some r):(Lit.int .i64 r.2.imm).wf=true/\(r.1=false->r.2.op≠0):=by
 have hw:∀y:NV,(-1000000000<y.imm/\y.imm<1000000000)->(Lit.int .i64 y.imm).wf=true:=fun y hy=>by
  simp[Lit.wf,IntKind.min,IntKind.max,IntKind.signed,IntKind.bits];omega
 unfold rdLine at h;rcases hf:fit (ptL d 64) l nv0 with _|x
 ·rw[hf]at h
  simp only at h;rcases hi:insL d l with _|y
  ·rw[hi]at h;cases h
  ·rw[hi]at h
   simp only at h;split at h
   ·cases h
    unfold insL at hi;split at hi
    ·cases hi
    ·rename_i h0
     have:=fit_imm _ _ _ y hi (by show -1000000000<(0:Int)/\(0:Int)<1000000000;omega);exact⟨hw y this.1,fun _=>by rw[this.2];exact h0⟩
   ·cases h
 ·rw[hf]at h
  cases h;have:=fit_imm _ _ _ x hf (by decide);exact⟨hw x this.1,fun h=>by cases h⟩
end Go.Proofs.YtdbhgaegblclaaaDoor
