import Derived.Test.YtdohpenfkdckiaaGreatDoorJ24
set_option linter.all false
set_option maxRecDepth 100000
set_option maxHeartbeats 20000000
namespace Go.Proofs.YtdohpenfkdckiaaGreatDoor.Gw
open Go.Proofs.Tryz
open Go Go.ChangeShapes Go.WideShapes Go.RowKit Go.Deep
theorem kI5:(Rows.spoilsRow.unfollowed == prog.unfollowed 9)=true:=kR
end Go.Proofs.YtdohpenfkdckiaaGreatDoor.Gw
