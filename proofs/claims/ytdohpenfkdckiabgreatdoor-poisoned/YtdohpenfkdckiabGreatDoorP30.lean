import Derived.Test.YtdohpenfkdckiabGreatDoorP23
import Derived.SevenTiedAt
set_option linter.all false
set_option maxRecDepth 100000
set_option maxHeartbeats 20000000
namespace Go.Proofs.YtdohpenfkdckiabGreatDoor
open Go.Proofs.Tryz
open Go Go.ChangeShapes Go.WideShapes Go.RowKit Go.Deep
theorem jK4:false=Rows.poisonedRow.goesBy prog:=by kernel_rfl
end Go.Proofs.YtdohpenfkdckiabGreatDoor
