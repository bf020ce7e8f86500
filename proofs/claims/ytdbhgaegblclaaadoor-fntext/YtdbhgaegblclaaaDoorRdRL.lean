import Derived.Test.YtdbhgaegblclaaaDoorRdGoto
namespace Go.Proofs.YtdbhgaegblclaaaDoor
open Go.RowKit
def lnV(r:Row):List Value:=[.bool r.1,.int .i64 r.2.op,.int .i64 r.2.d,.int .i64 r.2.a,.int .i64 r.2.b,.int .i64 r.2.imm,.int .i64 r.2.h]
def lnA(lo:Option Row):Array Value:=(lnV (lo.getD (false,nv0))).toArray
def RLSpec:Prop:=∀(sb nb ob mf:Nat)(d:Int)(b o cap:Nat)(l:List UInt8)(w:World),SC w sb nb ob mf d->OpsAt w ob->(d=0∨d=1)->(l.length:Int)<=1048576->l.length<=cap->At w b o l.length (numF .u8 (bF l))->
 Calls Tryd.prog 72 #[.pointer (some ⟨sb,0,none⟩),.slice (some ⟨b,o,none⟩) l.length cap] w fun e w'=>e=.returned (.agg (lnA (rdLine d l)))/\Below w.heap.size w w'
end Go.Proofs.YtdbhgaegblclaaaDoor
