import Derived.Test.YtdohpenfkdckiaaGreatDoorJ24
import Derived.SevenTiedAt
set_option linter.all false
set_option maxRecDepth 100000
set_option maxHeartbeats 20000000
namespace Go.Proofs.YtdohpenfkdckiaaGreatDoor.Gw
open Go.Proofs.Tryz
open Go Go.ChangeShapes Go.WideShapes Go.RowKit Go.Deep
theorem kF9:false=Rows.spoilsRow.goesBy prog:=kR
end Go.Proofs.YtdohpenfkdckiaaGreatDoor.Gw
