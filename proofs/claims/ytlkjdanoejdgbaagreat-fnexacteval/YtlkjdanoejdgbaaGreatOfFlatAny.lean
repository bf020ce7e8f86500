import Derived.Test.YtlkjdanoejdgbaaGreatOfInsSame
import Derived.Test.YtlkjdanoejdgbaaGreatOfCoreF
import Derived.Deep.QuietTactic
import Derived.BigQuiet
import Derived.Deep.RegionWith
import Derived.BigRegion
namespace Go.Proofs.YtlkjdanoejdgbaaGreat
open Go.RowKit
def insF(F:Nat->Nat->Int)(i:Nat):Value:=.int .i64 (F (i/6) (i%6))
theorem insF_at(F:Nat->Nat->Int)(k j:Nat)(hj:j<6):insF F (k*6+j)=.int .i64 (F k j):=by
 unfold insF;rw[show(k*6+j)/6=k by omega,show(k*6+j)%6=j by omega]
def insOK(F:Nat->Nat->Int)(i:Nat):Bool:=implIns (F i 0) (F i 1) (F i 2) (F i 3) (F i 4) (F i 5)
end Go.Proofs.YtlkjdanoejdgbaaGreat
