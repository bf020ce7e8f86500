import Derived.Test.YtiphbmhoifggiaaGreatDoorRows
import Derived.Test.YtiphbmhoifggiaaGreatDoorOfRegT
import Derived.WalkKit
import Derived.WalkSpells
import Derived.WalkLawsBesides
namespace Go.Proofs.YtiphbmhoifggiaaGreatDoor
open Go.RowKit
def first(m:Nat)(f:Nat->Value):List Value:=(List.range m).map f
end Go.Proofs.YtiphbmhoifggiaaGreatDoor
