import Derived.Test.YtiphbmhoifggiaaGreatDoorUnitCheck
/- impl.CheckUnit. -/
namespace Go.Proofs.YtiphbmhoifggiaaGreatDoor
open Go.RowKit
end Go.Proofs.YtiphbmhoifggiaaGreatDoor
