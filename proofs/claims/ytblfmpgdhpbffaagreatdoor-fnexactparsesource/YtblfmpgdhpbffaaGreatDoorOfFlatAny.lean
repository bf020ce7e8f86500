import Derived.Test.YtblfmpgdhpbffaaGreatDoorOfInsSame
import Derived.Test.YtblfmpgdhpbffaaGreatDoorOfOpenRow
import Derived.Deep.QuietTactic
import Derived.BigQuiet
import Derived.Deep.RegionWith
import Derived.BigRegion
/- Slices of instructions: copied, compared, measured. -/
namespace Go.Proofs.YtblfmpgdhpbffaaGreatDoor
open Go.RowKit



end Go.Proofs.YtblfmpgdhpbffaaGreatDoor
/- ValidFlat, the specification's and the program's. -/
namespace Go.Proofs.YtblfmpgdhpbffaaGreatDoor
open Go.RowKit


end Go.Proofs.YtblfmpgdhpbffaaGreatDoor
/- Slices of instructions: compared. -/
namespace Go.Proofs.YtblfmpgdhpbffaaGreatDoor
open Go.RowKit


end Go.Proofs.YtblfmpgdhpbffaaGreatDoor
/- Lists of instructions: the contracts for whatever list came in. -/
namespace Go.Proofs.YtblfmpgdhpbffaaGreatDoor
open Go.RowKit

end Go.Proofs.YtblfmpgdhpbffaaGreatDoor
